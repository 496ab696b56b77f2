import PyProof.Rows.All
import Wide.All
import OpenK.AllK
import Wide.FinOn
import HandS.ForMost
import HandS.ForExc
import HandS.Wide
import HandS.WideBits
import HandS.Gcd
import HandS.IsInst
import HandS.Flow
import HandS.FStr
import HandS.TupAny
import HandS.StrMore
import HandS.Lambda
import HandS.Zip
import PyProof.Draws
import HandS.Exc
import HandS.ExcInit
import HandS.ExcField
import HandS.ExcIs
import HandS.ExcOwn
import HandS.EndTab
import PyProof.ExcBaseAll.IndexError
import PyProof.ExcBaseAll.RuntimeError
import PyProof.ExcBaseAll.OverflowError
import PyProof.ExcBaseAll.ArithmeticError
import PyProof.ExcBaseAll.ValueError
import HandS.TupMul
import HandS.Deep
import KE.KMathGC
import HandS.TupLen
import HandS.Sort
import HandS.Property
import HandS.ClsMeth
import HandS.DictComp
import HandS.List
import KE.KDictWalk
import HandS.SortInts
import HandS.Conv
import PyProof.ListRange
import HandS.TupLe
import HandS.TupSets
import HandS.Strs
import KE.GoesZip
import KE.GoesMore
import PySem.Challenge.RW_pinnedgaps_k18_errors_of_local_walks
set_option Elab.async false
set_option linter.all false
set_option autoImplicit false
set_option maxRecDepth 100000
set_option maxHeartbeats 8000000
/-! A list comprehension whose block may let an exception out. -/
namespace Pg
open PySem L2 PySem.Spec PyProof.Rows

/-- what is kept of an error that is in the air of a block: as XE, whatever frame noted it last -/
def XEA (X : Cx) (W : WX) (u : Value) (s' : Shared) : Prop :=
  ∃ (a : Addr) (B : Heap) (sI : Shared) (pins : List (Addr × Obj)) (σ : L2.St) (H : Hp) (cls : Value) (d : Option Addr), u = .ref a ∧ Inv X pins σ H sI ∧
    (∀ b o, sI.heap.get? b = some o → b ∉ frs X.stack → B.get? b = some o) ∧ sI.heap.UpToSlots s'.heap ∧
    (B.StaysIn s'.heap ∧ B.get? a = none ∧ s'.heap.FunFrames B X.stack ∧
      ((∃ oe vs, s'.heap.get? a = some oe ∧ Zc cls d oe ∧ oe.data = .fields vs ∧ vs[1]? = some .none) ∨ ∃ fl, HandSPX.TracedZ s'.heap B a (Zc cls d) fl)) ∧
    H a = none ∧ s'.os = sI.os ∧ AllBare s'.gens ∧ W cls d σ H
/-- noted by the frame that runs -/
def XEH (X : Cx) (W : WX) (L : Addr) (u : Value) (s' : Shared) : Prop :=
  ∃ (a : Addr) (B : Heap) (sI : Shared) (pins : List (Addr × Obj)) (σ : L2.St) (H : Hp) (cls : Value) (d : Option Addr), u = .ref a ∧ Inv X pins σ H sI ∧
    (∀ b o, sI.heap.get? b = some o → b ∉ frs X.stack → B.get? b = some o) ∧ sI.heap.UpToSlots s'.heap ∧ HandSPX.HeldZ B X.stack a (Zc cls d) L s'.heap ∧
    H a = none ∧ s'.os = sI.os ∧ AllBare s'.gens ∧ W cls d σ H
def TakesH (X : Cx) (W : WX) : Prop := ∀ L u s', X.env.frame = some L → XEH X W L u s' → X.xe u s'
theorem held_of {X : Cx} {W : WX} (t : Takes X W) (hf : X.env.frame = some X.env.locals) : TakesH X W := fun L u s' e ⟨a, B, sI, pins, σ, H, cls, d, h0, I, nb, up, hh, na, os, ag, w⟩ => by
  have e1 : L = X.env.locals := by rw [hf] at e; cases e; rfl
  subst e1
  exact t u s' ⟨a, B, sI, pins, σ, H, cls, d, h0, I, nb, up, .inr (.inr hh), na, os, ag, w⟩
theorem XEH.air {X : Cx} {W : WX} {L : Addr} {u : Value} {s' : Shared} (x : XEH X W L u s') : XEA X W u s' := by
  obtain ⟨a, B, sI, pins, σ, H, cls, d, h0, I, nb, up, ⟨k1, k2, k3, k4⟩, na, os, ag, w⟩ := x
  exact ⟨a, B, sI, pins, σ, H, cls, d, h0, I, nb, up, ⟨k1, k2, k3, .inr ⟨_, k4⟩⟩, na, os, ag, w⟩
theorem air_of {X : Cx} {W : WX} {u : Value} {s' : Shared} (x : XE X W u s') : XEA X W u s' := by
  obtain ⟨a, B, sI, pins, σ, H, cls, d, h0, I, nb, up, sky, na, os, ag, w⟩ := x
  refine ⟨a, B, sI, pins, σ, H, cls, d, h0, I, nb, up, ?_, na, os, ag, w⟩
  rcases sky with ⟨k1, k2, k3, oe, vs, k4⟩ | ⟨k1, k2, k3, k4⟩ | ⟨k1, k2, k3, k4⟩
  · exact ⟨k1, k2, k3, .inl ⟨oe, vs, k4⟩⟩
  · exact ⟨k1, k2, k3, .inr ⟨_, k4⟩⟩
  · exact ⟨k1, k2, k3, .inr ⟨_, k4⟩⟩
theorem XEA.unwish {X : Cx} {E : Value → Shared → Prop} {W : WX} {u : Value} {s' : Shared} (x : XEA (X.wish E) W u s') : XEA X W u s' := by
  obtain ⟨a, B, sI, pins, σ, H, cls, d, h0, I, r⟩ := x
  exact ⟨a, B, sI, pins, σ, H, cls, d, h0, I.unwish, r⟩

section
variable {M : Model} {A : Around} {E : Value → Shared → Prop} {s : Shared} {Z : Obj → Prop} {base : Heap} {env : Env} {outer : List Env} {L e : Addr}
theorem note_eq {x : Value} {env' : Env} (h : env'.frame = env.frame) : noteFrame x env' = noteFrame x env := by
  simp only [noteFrame, PySem.frameOf, h]
/-- a frame notes it, whatever frame noted it last -/
theorem note_any {fl : Value} {Q : Unit → Shared → Prop} (hZ : HandSPX.Steady Z) (hfr : A.frames = some (env :: outer)) (hf : env.frame = some L) (hkb : base.StaysIn s.heap) (hen : base.get? e = none) (hl : s.heap.FunFrames base (env :: outer))
    (ht : HandSPX.TracedZ s.heap base e Z fl) (hQ : ∀ h', HandSPX.HeldZ base (env :: outer) e Z L h' → s.heap.UpToSlots h' → Q () { s with heap := h' }) : wpAny M A (noteFrame (.ref e) env) Q E s := by
  by_cases hq : fl = rawInt L
  · subst hq
    exact HandSPX.againZ hf ht (hQ s.heap ⟨hkb, hen, hl, ht⟩ (Heap.UpToSlots.refl _))
  obtain ⟨oe, vs, T, zoT, ts, he, hz, hd, h1, zhnT, zhTe, zhT, zhdT, h3⟩ := ht
  have nb : ¬ ((fl == rawInt L) = true) := fun z => hq (eq_of_beq z)
  unfold noteFrame
  simp only [hf]
  refine wpAny_bind (wpAny_field he hd h1 ?_)
  rw [if_pos (by simp : (Value.ref T != Value.none) = true)]
  refine wpAny_bind (wpAny_field zhT zhdT h3 ?_)
  rw [if_neg nb]
  refine wpAny_bind (wpAny_setField zhT zhdT (Array.getElem?_eq_some_iff.mp h3).1 ?_)
  have oth : ∀ b, b ≠ T → (s.heap.update T (Obj.mapFields (·.setIfInBounds 3 Value.none))).get? b = s.heap.get? b := fun b hb => Heap.get?_update_other _ _ (Ne.symm hb)
  have nr : ∀ b o, s.heap.get? b = some o → (∀ vs, o.data ≠ .fields vs) → b ≠ T := fun b o hb hnf q => by
    subst q
    rw [zhT] at hb
    cases hb
    exact hnf ts zhdT
  refine HandSPX.wpAny_entryZ hZ hfr (hl.of_keeps fun b o hb hnf => ⟨o, (oth b (nr b o hb hnf)).trans hb, rfl⟩) hf ((oth e (Ne.symm zhTe)).trans he) (fun b o hbo => (oth b fun q => by subst q; rw [zhnT] at hbo; cases hbo).trans (hkb b o hbo)) hen hd (Array.getElem?_eq_some_iff.mp h1).1 hz fun h' ⟨x1, x2, x3, x4⟩ => ?_
  exact hQ h' ⟨x1, hen, x2, x3⟩ fun b o hb hnf => x4 b o ((oth b (nr b o hb hnf)).trans hb) hnf

/-- behind a comprehension's block, its environment known -/
def compPX (M : Model) (A : Around) (E : Value → Shared → Prop) (use : Option (Value → Sem Unit)) (Q : Value → Shared → Prop) (acc : Value) (ce : Env) (r : Result) (s' : Shared) : Prop := match r with
  | .ok _ => (match use with
    | none => ∃ m, s'.heap.Ns ce.locals m ∧ ∀ h', Heap.SameBut ce.locals s'.heap h' → Q acc { s' with heap := h' }
    | some u => wpAny M A (u acc) (fun _ zs2 => ∃ m, zs2.heap.Ns ce.locals m ∧ ∀ h', Heap.SameBut ce.locals zs2.heap h' → Q .none { zs2 with heap := h' }) E s')
  | .error x => ∃ m, s'.heap.Ns ce.locals m ∧ ∀ h', Heap.SameBut ce.locals s'.heap h' → wpAny M A (passOn "comprehension.variables-let-go" x ce : Sem Value) (fun _ _ => False) E { s' with heap := h' }
theorem compr_x {ex : Expr} {scope : Scope} {pos : Pos} {newAcc first : Sem Value} {g : Comprehension} {gs : List Comprehension} {cl : List (Str × Addr)} {use : Option (Value → Sem Unit)} {Q : Value → Shared → Prop} (hcl : clausesOf ex = g :: gs)
    (hs : ∀ x, foldedSetIterable g.iter env x = pure x) (hclos : closureFor scope env = pure cl) (hkind : scope.kind = .function) (hnames : ∀ x ∈ scope.names, x.2 = .local → scope.names.lookup x.1 = some .local)
    (h : wpAny M A first (fun x s1 => wpAny M A (pyIter x) (fun it zs2 => wpAny M A newAcc (fun acc s3 => wpAny M A (newFunctionEnv scope env.globals cl [] env.qual none .none (some env)) (fun ce zs4 =>
        codeAny M A (.compStart ex 0 it acc { ce with scope := relabel scope env }) (compPX M A E use Q acc { ce with scope := relabel scope env }) zs4) E s3) E zs2) E s1) E s) :
    wpAny M A (comprehension ex scope env pos newAcc false first use) Q E s := by
  unfold comprehension
  rw [hclos, hcl]
  refine wpAny_bind (wpAny_mono h (fun x s1 h1 => wpAny_bind (wpAny_standAt (wpAny_bind (wpAny_of_eq (hs x) (wpAny_bind (wpAny_holding (wpAny_mono h1 (fun it zs2 h2 => wpAny_standIf (wpAny_bind (wpAny_mono h2 (fun acc s3 h3 =>
    wpAny_bind (wpAny_pure (wpAny_bind (wpAny_mono h3 (fun ce zs4 h4 => ?_) fun _ _ z => z)))) fun _ _ z => z))) fun _ _ z => z))))))) fun _ _ z => z)
  dsimp only
  have hv : ∀ x ∈ (scope.names.filter fun x => (x.2 == .local || x.2 == .cell) && x.1 != (".0" : Str)).reverse, x.2 = .local → Env.kindOf { ce with scope := relabel scope env } x.1 = some .local := fun x hx hl =>
    lookup_relabel_local (hnames x (List.mem_filter.mp (List.mem_reverse.mp hx)).1 hl)
  have hv' : ∀ x ∈ (scope.names.filter fun x => (x.2 == .local || x.2 == .cell) && x.1 != (".0" : Str)).reverse.drop 1 ++ (scope.names.filter fun x => (x.2 == .local || x.2 == .cell) && x.1 != (".0" : Str)).reverse.take 1, x.2 = .local →
      Env.kindOf { ce with scope := relabel scope env } x.1 = some .local := fun x hx hl => (List.mem_append.mp hx).elim (fun z => hv x (List.mem_of_mem_drop z) hl) (fun z => hv x (List.mem_of_mem_take z) hl)
  refine wpAny_holding (wpAny_bind (wpAny_attempt (wpAny_holding (wpAny_run (codeAny_mono h4 fun r s' hr => ?_)))))
  cases r with
  | ok f =>
    cases use with
    | none =>
      obtain ⟨m, hn, hr⟩ := hr
      exact wpAny_bind (wpAny_holding (wpAny_comp_letGo (cenv := { ce with scope := relabel scope env }) hkind _ s' m hv hn fun h' _ _ sb => wpAny_pure (hr h' sb)))
    | some u =>
      have hr : wpAny M A (u acc) _ E s' := hr
      refine wpAny_bind (wpAny_rule (wpAny_bind (wpAny_holding (wpAny_mono hr (fun _ zs2 ⟨m, hn, hr2⟩ => ?_) fun _ _ z => z))))
      exact wpAny_bind (wpAny_comp_letGo (cenv := { ce with scope := relabel scope env }) hkind _ zs2 m hv' hn fun h' _ _ sb => wpAny_pure (hr2 h' sb))
  | error x =>
    obtain ⟨m, hn, hr⟩ := hr
    exact wpAny_bind (wpAny_holding (wpAny_comp_letGo (cenv := { ce with scope := relabel scope env }) hkind _ s' m hv hn fun h' _ _ sb => wpAny_mono (hr h' sb) (fun _ _ f => f.elim) fun _ _ y => y))
end

theorem thnX {α : Type} {t : Sem α} {Q Q' : α → Shared → Prop} {M : Model} {A : Around} {E E' : Value → Shared → Prop} {s : Shared} (h : wpAny M A t Q E s) (hQ : ∀ a s, Q a s → Q' a s) (hE : ∀ u s, E u s → E' u s) : wpAny M A t Q' E' s := wpAny_mono h hQ hE

/-- who is on top of the frames -/
structure Top (X : Cx) (e0 : Env) (o0 : List Env) (L : Addr) : Prop where
  st : X.stack = e0 :: o0
  fr : X.env.frame = some L
  f0 : e0.frame = some L
abbrev WB (Wo : Value → Option Addr → Hp → Prop) : WX := fun c d _ H => Wo c d H
abbrev _root_.L2.Cx.blkX (X : Cx) (s : Shared) (H : Hp) (scope : Scope) (ce : Env) (fp : List Addr) (Wo : Value → Option Addr → Hp → Prop) : Cx := (X.blk s H scope ce fp).wish (XEA (X.blk s H scope ce fp) (WB Wo))
section
variable {X : Cx}
/-- the end of a block with an error in its air -/
theorem block_exc {pins : List (Addr × Obj)} {σ : L2.St} {s3 : Shared} {H3 : Hp} {e0 : Env} {o0 : List Env} {L : Addr} {scope : Scope} {ce : Env} {fp : List Addr} {Wo : Value → Option Addr → Hp → Prop} {use : Option (Value → Sem Unit)} {Qf : Value → Shared → Prop} {acc : Value} {W : WX}
    (tp : Top X e0 o0 L) (th : TakesH X W) (hW : ∀ c d H, Wo c d H → W c d σ H) (I3 : Inv X pins σ H3 s3) (cL : ce.locals = s3.heap.objs.size) (cF : ce.frame = X.env.frame) (f3 : ∀ b ∈ fp, FpOk X pins H3 b ∧ b < s3.heap.objs.size)
    {u : Value} {s' : Shared} (x : XEA (X.blk s3 H3 scope ce fp) (WB Wo) u s') : notedBy (model X.prog X.w) X.A ce (fun e zs2 => compPX (model X.prog X.w) X.A X.xe use Qf acc ce (.error e) zs2) u s' := by
  obtain ⟨a, B, sI, pn, σb, H, cls, d, rfl, I, nb, up, ⟨hB, hn, hl, tr⟩, na, os, ag, w⟩ := x
  have hst : (X.blk s3 H3 scope ce fp).stack = e0 :: o0 := tp.st
  rw [hst] at hl nb
  have hfr : X.A.frames = some (e0 :: o0) := by have z := I3.ok.frames; rw [tp.st] at z; exact z
  have fin : ∀ h1, HandSPX.HeldZ B (e0 :: o0) a (Zc cls d) L h1 → s'.heap.UpToSlots h1 → compPX (model X.prog X.w) X.A X.xe use Qf acc ce (.error (.ref a)) { s' with heap := h1 } := fun h1 ⟨q1, q2, q3, q4⟩ up1 => by
    have upI : sI.heap.UpToSlots h1 := up.trans up1
    obtain ⟨m, ⟨oL, es, ep, hoL, r⟩, _⟩ := id I.loc
    have hoL : sI.heap.get? ce.locals = some oL := hoL
    have nfs : ce.locals ∉ frs (e0 :: o0) := fun hm => by
      have z := I3.stack
      rw [tp.st] at z
      obtain ⟨_, o, ho, _⟩ := z.mem hm
      rw [cL] at ho
      exact absurd (Heap.lt_size ho) (Nat.lt_irrefl _)
    have hBL : B.get? ce.locals = some oL := nb _ _ hoL nfs
    have zhne : a ≠ ce.locals := fun z => by rw [z, hBL] at hn; cases hn
    have h1L : h1.get? ce.locals = some oL := q1 _ _ hBL
    have nL : s3.heap.get? ce.locals = none := Heap.get?_none_of_le (by rw [cL]; exact Nat.le_refl _)
    refine ⟨m, ⟨oL, es, ep, h1L, r⟩, fun h2 sb => ?_⟩
    -- the state without the block's own names
    generalize hsJ : ({ sI with heap := PySem.W.hideAll sI.heap [ce.locals] } : Shared) = sJ
    have gJ : ∀ b o, sI.heap.get? b = some o → b ≠ ce.locals → sJ.heap.get? b = some o := fun b o e n => by rw [← hsJ]; exact PySem.W.hideAll_get _ e (by simpa using n)
    have gI : ∀ b o, sJ.heap.get? b = some o → sI.heap.get? b = some o ∧ b ≠ ce.locals := fun b o e => by
      rw [← hsJ] at e
      refine ⟨PySem.W.of_hideAll _ e, fun z => ?_⟩
      have q : (PySem.W.hideAll sI.heap [ce.locals]).get? b = none := PySem.W.hideAll_none _ (by simp [z])
      rw [show (PySem.W.hideAll sI.heap [ce.locals]).get? b = some o from e] at q
      cases q
    have ne3 : ∀ b o, s3.heap.get? b = some o → b ≠ ce.locals := fun b o e z => by rw [z, nL] at e; cases e
    have Hc : H ce.locals = none := I.free
    have zI7 : Inv X pins σ H sJ := by
      refine I3.call' (ch := fp) (by rw [← hsJ]; exact I.os) ⟨fun b o e n hb hx => ?_, fun b o e n hb hx => ?_, I.base.free, fun b o e hx => ?_, I.base.tups, I.base.frzs, I.base.tbls⟩ ?_ (by rw [← hsJ]; exact I.bare) fun b hb => ⟨(f3 b hb).1.2.2.2.1, (f3 b hb).1.2.1, (f3 b hb).1.2.2.2.2.1, (f3 b hb).1.2.2.2.2.2⟩
      · exact gJ b o (I.base.keep b o e n hb hx) (ne3 b o e)
      · obtain ⟨sl, z⟩ := I.base.slot b o e n hb hx
        exact ⟨sl, gJ b _ z (ne3 b o e)⟩
      · obtain ⟨o', z⟩ := I.base.there b o e hx
        exact ⟨o', gJ b o' z (ne3 b o e)⟩
      · intro b o q
        refine (I.hok b o q).stay (fun c v hc r => gJ c v r fun z => ?_) (fun _ r => r) fun _ _ r => r
        rcases hc with hc | hc
        · rw [← hc, z, Hc] at q; cases q
        · rw [z, Hc] at hc; cases hc
    -- the ground without them
    have gB : ∀ b o, B.get? b = some o → b ≠ ce.locals → (PySem.W.hideAll B [ce.locals]).get? b = some o := fun b o e n => PySem.W.hideAll_get _ e (by simpa using n)
    have gB' : ∀ b o, (PySem.W.hideAll B [ce.locals]).get? b = some o → B.get? b = some o ∧ b ≠ ce.locals := fun b o e => by
      refine ⟨PySem.W.of_hideAll _ e, fun z => ?_⟩
      have q : (PySem.W.hideAll B [ce.locals]).get? b = none := PySem.W.hideAll_none _ (by simp [z])
      rw [e] at q
      cases q
    have gN : ∀ b, B.get? b = none → (PySem.W.hideAll B [ce.locals]).get? b = none := fun b e => by
      cases q : (PySem.W.hideAll B [ce.locals]).get? b with
      | none => rfl
      | some o => rw [(gB' b o q).1] at e; cases e
    have hk : HandSPX.HeldZ (PySem.W.hideAll B [ce.locals]) (e0 :: o0) a (Zc cls d) L h2 := by
      obtain ⟨oe, vs, T, zoT, ts, he, hz, hd, k1, zhnT, zhTe, zhT, zhdT, k3⟩ := q4
      refine ⟨fun b o e => ?_, gN a q2, ?_, oe, vs, T, zoT, ts, (sb.2 a zhne).trans he, hz, hd, k1, gN T zhnT, zhTe, (sb.2 T fun z => by rw [z, hBL] at zhnT; cases zhnT).trans zhT, zhdT, k3⟩
      · obtain ⟨z1, z2⟩ := gB' b o e
        exact (sb.2 b z2).trans (q1 b o z1)
      · have z : h1.FunFrames (PySem.W.hideAll B [ce.locals]) (e0 :: o0) := funFrames_none q3 fun b hb => gN b (q3.mem hb).1
        have all : ∀ (l : List Env), (∀ b ∈ frs l, b ∈ frs (e0 :: o0)) → h1.FunFrames (PySem.W.hideAll B [ce.locals]) l → h2.FunFrames (PySem.W.hideAll B [ce.locals]) l := by
          intro l
          induction l with
          | nil => intro _ _; trivial
          | cons en r ih =>
            rintro hs ⟨y1, ⟨L', o, y2, y3, y4, y5⟩, y6⟩
            have hL' : L' ∈ frs (e0 :: o0) := hs L' (by unfold frs; rw [List.filterMap_cons, y2]; exact List.mem_cons_self)
            exact ⟨y1, ⟨L', o, y2, y3, (sb.2 L' fun z => nfs (z ▸ hL')).trans y4, y5⟩, ih (fun b hb => hs b (by unfold frs; rw [List.filterMap_cons, y2]; exact List.mem_cons_of_mem _ hb)) y6⟩
        exact all _ (fun _ q => q) z
    have upJ : sJ.heap.UpToSlots h2 := fun b o e hnf => by
      obtain ⟨z1, z2⟩ := gI b o e
      obtain ⟨sl, z3⟩ := upI b o z1 hnf
      exact ⟨sl, (sb.2 b z2).trans z3⟩
    -- it is passed on
    unfold PySem.passOn
    obtain ⟨oe, vs, T, zoT, ts, he, hz, hd, k1, zhnT, zhTe, zhT, zhdT, k3⟩ := id hk.2.2.2
    refine wpAny_bind (wpAny_field he hd k1 ?_)
    rw [if_neg (by simp : ¬ ((Value.ref T == Value.none) = true))]
    have hcf : ce.frame = some L := cF.trans tp.fr
    rw [hcf]
    refine wpAny_bind (HandSPX.setFlight_onZ hk fun h4 hk4 up4 => wpAny_throw ?_)
    refine th L _ _ tp.fr ⟨a, _, sJ, pins, σ, H, cls, d, rfl, zI7, fun b o e hb => ?_, upJ.trans up4, by rw [tp.st]; exact hk4, na, ?_, ag, hW _ _ _ w⟩
    · obtain ⟨z1, z2⟩ := gI b o e
      rw [tp.st] at hb
      exact gB b o (nb b o z1 hb) z2
    · rw [← hsJ]
      exact os
  show wpAny _ _ (noteFrame (.ref a) ce) _ _ _
  rw [note_eq (env := e0) (env' := ce) (cF.trans (tp.fr.trans tp.f0.symm))]
  rcases tr with ⟨oe, vs, he, hz, hd, k1⟩ | ⟨fl, ht⟩
  · exact HandSPX.look_newZ Zc.steady hfr hl tp.f0 he hB hn hd k1 hz fin
  · exact note_any Zc.steady hfr tp.f0 hB hn hl ht fin
end
section
variable {X : Cx}
/-- [elt for tg in iter if ..], the parts by the wish about errors -/
def tLcX (W : WX) (wi : TI) (g : (Value → Option Addr → Hp → Prop) → TG) (tt : (Value → Option Addr → Hp → Prop) → TT) (te : (Value → Option Addr → Hp → Prop) → TE) (vs : List Nat) : TE := fun σ H Q => tLc wi (g fun c d H' => W c d σ H') (tt fun c d H' => W c d σ H') (te fun c d H' => W c d σ H') vs σ H Q
theorem lc_coreX {pins : List (Addr × Obj)} {s : Shared} {σ : L2.St} {H : Hp} {Q : VK} {elt tg iter : Expr} {ifs : List Expr} {scope : Scope} {own : List (Str × Nat)} {pos pos' : Pos} {wi : TI} {g : (Value → Option Addr → Hp → Prop) → TG} {tt : (Value → Option Addr → Hp → Prop) → TT} {te : (Value → Option Addr → Hp → Prop) → TE}
    {use : Option (Value → Sem Unit)} {Qf : Value → Shared → Prop} {W : WX} {e0 : Env} {o0 : List Env} {L : Addr} (tp : Top X e0 o0 L) (th : TakesH X W) (hc : X.calm = true) (hN : X.N.Nodup) (I : Inv X pins σ H s) (hi : PI X tg iter wi) (ok : BlkOk X.N X.env.scope scope own)
    (hg : ∀ (Wo : Value → Option Addr → Hp → Prop) (s : Shared) (H : Hp) (C : Addr) (cl : List (Str × Addr)) (fp : List Addr), PG (X.blkX s H scope (compEnvC scope cl C X.env) fp Wo) tg (g Wo))
    (ht : ∀ (Wo : Value → Option Addr → Hp → Prop) (s : Shared) (H : Hp) (C : Addr) (cl : List (Str × Addr)) (fp : List Addr), PTs (X.blkX s H scope (compEnvC scope cl C X.env) fp Wo) ifs (tt Wo))
    (he : ∀ (Wo : Value → Option Addr → Hp → Prop) (s : Shared) (H : Hp) (C : Addr) (cl : List (Str × Addr)) (fp : List Addr), PE (X.blkX s H scope (compEnvC scope cl C X.env) fp Wo) elt (te Wo)) (hs : ∀ x, foldedSetIterable iter X.env x = pure x)
    (h : tLcX W wi g tt te (own.map (·.2)) σ H Q)
    (zhRR : ∀ D ce s' m H', Inv X pins σ H' s' → Q (.ref D) H' → s'.heap.Ns ce.locals m → FpOk X pins H' ce.locals → compPX (model X.prog X.w) X.A X.xe use Qf (.ref D) ce (.ok .next) s') :
    wpAny (model X.prog X.w) X.A (comprehension (.ListComp elt [⟨tg, iter, ifs, 0⟩] scope pos) scope X.env pos' (newList []) false (eval iter X.env) use) Qf X.xe s := by
  have hfree : ∀ y ∈ scope.names, y.2 = .free → ∃ c, X.env.cells.lookup y.1 = some c := fun y hy e => (ok.free y hy e).elim (fun k => I.ok.has _ (.inl k)) (fun k => I.ok.has _ (.inr k))
  refine compr_x (use := use) rfl hs (closure_ok hfree) ok.kind (fun y hy e => by rw [ok.uniq y hy, e]) (thn (hi.run pins s σ H _ I h) fun zxv s1 hx => thn hx fun itv zs2 h2 => ?_)
  obtain ⟨it, fp, ztn, J, H2, e, zI2, T, zst2, zf2, q⟩ := h2
  subst e
  refine wpAny_newObj_type (newEnv_comp ?_) (by show 0 ≤ sizeLine; decide)
  generalize hD : zs2.heap.objs.size = D
  have zhDn : H2 D = none := zI2.hok.fresh (Nat.le_of_eq hD)
  obtain ⟨Wm, ⟨zm0, zw0⟩, turn⟩ := q D zhDn
  generalize zhs3 : ({ zs2 with heap := zs2.heap.push { cls := .type "list", data := .seq ([] : List Value).toArray } } : Shared) = s3
  have h3 : s3.heap = zs2.heap.push { cls := .type "list", data := .seq ([] : List Value).toArray } := by rw [← zhs3]
  have I3 : Inv X pins σ (upd H2 D (.lst [])) s3 := by
    subst zhs3
    refine zI2.laid (t' := zs2.toks) (fun b o e => Heap.get?_push_of_some _ e) (Nat.le_of_eq hD) ⟨Nat.zero_le _, [], 0, .nil, ?_⟩
    subst hD
    exact Heap.get?_push_size _ rfl
  have sz : ∀ b ∈ fp, b < zs2.heap.objs.size := fun b hb => let ⟨o, e, _⟩ := T.obj _ _ zst2 b hb; Heap.lt_size e
  have f3 : ∀ b ∈ fp, FpOk X pins (upd H2 D (.lst [])) b ∧ b < s3.heap.objs.size := fun b hb => by
    have hlt := sz b hb
    refine ⟨⟨(upd_ne (by rw [← hD]; exact Nat.ne_of_lt hlt)).trans (zf2 b hb).1, (zf2 b hb).2⟩, ?_⟩
    rw [h3, Heap.size_push]
    exact Nat.lt_succ_of_lt hlt
  have zst3 : ztn 0 s3.heap := T.keep _ _ _ zst2 fun b _ o e => h3 ▸ Heap.get?_push_of_some _ e
  have zI4 := block_start I3 ok hN f3
  generalize hWo : (fun c d H' => W c d σ H' : Value → Option Addr → Hp → Prop) = Wo at turn
  have hW : ∀ c d H, Wo c d H → W c d σ H := fun c d H z => by rw [← hWo] at z; exact z
  have pg := hg Wo s3 (upd H2 D (.lst [])) s3.heap.objs.size (cellsFrom (s3.heap.objs.size + 1) scope.names (cloFrom X.env.cells scope.names [])) fp
  have pt := ht Wo s3 (upd H2 D (.lst [])) s3.heap.objs.size (cellsFrom (s3.heap.objs.size + 1) scope.names (cloFrom X.env.cells scope.names [])) fp
  have pe := he Wo s3 (upd H2 D (.lst [])) s3.heap.objs.size (cellsFrom (s3.heap.objs.size + 1) scope.names (cloFrom X.env.cells scope.names [])) fp
  show codeAny _ _ (.compStart (.ListComp elt [⟨tg, iter, ifs, 0⟩] scope pos) 0 (.ref it) (.ref D) (compEnvC scope (cellsFrom (s3.heap.objs.size + 1) scope.names (cloFrom X.env.cells scope.names [])) s3.heap.objs.size X.env)) (compPX (model X.prog X.w) X.A X.xe use Qf (.ref D) (compEnvC scope (cellsFrom (s3.heap.objs.size + 1) scope.names (cloFrom X.env.cells scope.names [])) s3.heap.objs.size X.env)) { s3 with heap := pushCells (s3.heap.push { cls := .type "dict", data := .dict #[] }) scope.names }
  have znfp : ∀ b ∈ fp, (upd H2 D (.lst [])) b = none := fun b hb => (f3 b hb).1.1
  generalize zhce : compEnvC scope (cellsFrom (s3.heap.objs.size + 1) scope.names (cloFrom X.env.cells scope.names [])) s3.heap.objs.size X.env = ce at zI4 pg pt pe ⊢
  have cL : ce.locals = s3.heap.objs.size := by rw [← zhce]; rfl
  have cF : ce.frame = X.env.frame := by rw [← zhce]; rfl
  generalize zhH3 : upd H2 D (.lst []) = H3 at I3 zI4 pg pt pe zw0 znfp f3
  generalize zhs4 : ({ s3 with heap := pushCells (s3.heap.push { cls := .type "dict", data := .dict #[] }) scope.names } : Shared) = zs4 at zI4 ⊢
  have zI4 : Inv (X.blkX s3 H3 scope ce fp Wo) [] (wipe σ (own.map (·.2))) H3 zs4 := zI4.wish _
  have zst4 : ztn 0 zs4.heap := T.keep _ _ _ zst3 fun b _ o e => zhs4 ▸ pushCells_keeps _ _ _ _ (Heap.get?_push_of_some _ e)
  have stat : ∀ {σ' : L2.St} {H' : Hp} {s' : Shared}, Inv (X.blkX s3 H3 scope ce fp Wo) [] σ' H' s' → (∀ b ∈ fp, H' b = none) → ∀ b ∈ fp, FpOk (X.blkX s3 H3 scope ce fp Wo) [] H' b := fun {σ' H' s'} I' hn b hb =>
    ⟨hn b hb, (I'.ok.exf b hb).1, I'.ok.exfs b hb, .inl hb, fun x c e => (I'.ok.exf b hb).2 x c e, fun p hp => absurd (show p ∈ ([] : List (Addr × Obj)) ++ [] from hp) (by simp)⟩
  have fail : ∀ u s', (X.blkX s3 H3 scope ce fp Wo).xe u s' → notedBy (model X.prog X.w) X.A ce (fun e zs2 => compPX (model X.prog X.w) X.A X.xe use Qf (.ref D) ce (.error e) zs2) u s' := fun u s' z => block_exc tp th hW I3 cL cF f3 z
  have loop : codeAny (model X.prog X.w) X.A (.compLoop (.ListComp elt [⟨tg, iter, ifs, 0⟩] scope pos) 0 (.ref it) (.ref D) ce) (compPX (model X.prog X.w) X.A X.xe use Qf (.ref D) ce) zs4 := by
    refine compLoop_any (fun n s' => ∃ i H', Inv (X.blkX s3 H3 scope ce fp Wo) [] (wipe σ (own.map (·.2))) H' s' ∧ ztn i s'.heap ∧ (∀ b ∈ fp, H' b = none) ∧ Wm i n H') ?_ zm0 ⟨0, H3, zI4, zst4, znfp, zw0⟩
    rintro n zs5 ⟨i, zH5, zI5, st5, zn5, zw5⟩
    rcases turn i n zH5 zw5 with ⟨stop, qq⟩ | ⟨go, Nx, hNx, step⟩
    · refine thnF (T.done (X.blkX s3 H3 scope ce fp Wo) rfl rfl rfl hc i [] zs5 _ zH5 (fun _ _ => False) zI5 (stat zI5 zn5) st5 stop) fun r zs6 ⟨hr, zI6⟩ => ?_
      subst hr
      have zI7 : Inv X pins σ zH5 zs6 := I3.call' (ch := fp) zI6.os zI6.base zI6.hok zI6.bare fun b hb => ⟨(f3 b hb).1.2.2.2.1, (f3 b hb).1.2.1, (f3 b hb).1.2.2.2.2.1, (f3 b hb).1.2.2.2.2.2⟩
      have nC : zH5 ce.locals = none := zI6.free
      obtain ⟨m, hn, _⟩ := zI6.loc
      exact zhRR D ce zs6 m zH5 zI7 qq hn (I3.fpOk (by rw [cL]; exact Nat.le_refl _) nC)
    · refine thnF (T.item (X.blkX s3 H3 scope ce fp Wo) rfl rfl rfl hc i [] zs5 _ zH5 (fun _ _ => False) zI5 (stat zI5 zn5) st5 go) fun r zs6 ⟨u, hr, zh6⟩ => ?_
      subst hr
      refine thnF zh6 fun _ zs7 ⟨x, zH7, zI7, r7, y7, zst7, zn7⟩ => ?_
      have zI7' := zI7.pinned (stat zI7 zn7) (T.obj _ _ zst7)
      refine thnX (pg.run _ zs7 _ zH7 x u _ zI7' r7 (step x zH7 y7)) (fun _ zs8 ⟨σ8, zH8, zI8, hw8, zq8⟩ => ?_) fail
      refine thnX (pt.run _ zs8 σ8 zH8 _ zI8 zq8) (fun b zs9 ⟨zH9, zI9, zq9⟩ => ?_) fail
      have fin : ∀ {s' : Shared} {H' : Hp}, Inv (X.blkX s3 H3 scope ce fp Wo) ([] ++ pinsAt fp zs7.heap) σ8 H' s' → Nx H' → ∃ m, m < n ∧ ∃ i H', Inv (X.blkX s3 H3 scope ce fp Wo) [] (wipe σ (own.map (·.2))) H' s' ∧ ztn i s'.heap ∧ (∀ b ∈ fp, H' b = none) ∧ Wm i m H' := fun {s' H'} I' nx => by
        obtain ⟨m', hm, w'⟩ := hNx H' nx
        have zpin' : ∀ b ∈ fp, ∀ o, zs7.heap.get? b = some o → s'.heap.get? b = some o ∧ H' b = none := fun b hb o e => have z := I'.pin (b, o) (List.mem_append_right _ (List.mem_append_right _ (mem_pinsAt hb e))); ⟨z.1, z.2.1⟩
        have hl : (wipe σ (own.map (·.2))).length = σ8.length := by rw [← hw8, wipe_length]
        refine ⟨m', hm, i + 1, H', (I'.unpinned (pins := [])).weak hl (fun j v e => (wipe_some (hw8 ▸ e)).1), T.keep _ _ _ zst7 fun b hb o e => (zpin' b hb o e).1, fun b hb => ?_, w'⟩
        obtain ⟨o, e, _⟩ := T.obj _ _ zst7 b hb
        exact (zpin' b hb o e).2
      cases b with
      | false =>
        simp only [Bool.false_eq_true, if_false] at zq9 ⊢
        exact fin zI9 zq9
      | true =>
        simp only [if_true] at zq9 ⊢
        refine thnX (pe.run _ zs9 σ8 zH9 _ zI9 zq9) (fun z zs10 ⟨yv, zH10, zI10, r10, acc, hD10, hz10, nx⟩ => ?_) fail
        exact app_ok (X := X.blkX s3 H3 scope ce fp Wo) zI10 hD10 hz10 r10 fun zs11 zI11 => fin zI11 nx
  exact codeAny_compStart_list loop (T.self X.A 0 _ _ _ zst4 loop)
/-- as a value -/
theorem pe_lcX {elt tg iter : Expr} {ifs : List Expr} {scope : Scope} {own : List (Str × Nat)} {pos : Pos} {wi : TI} {g : (Value → Option Addr → Hp → Prop) → TG} {tt : (Value → Option Addr → Hp → Prop) → TT} {te : (Value → Option Addr → Hp → Prop) → TE} {W : WX} {e0 : Env} {o0 : List Env} {L : Addr} (tp : Top X e0 o0 L) (th : TakesH X W)
    (hc : X.calm = true) (hN : X.N.Nodup) (hi : PI X tg iter wi) (ok : BlkOk X.N X.env.scope scope own) (hg : ∀ (Wo : Value → Option Addr → Hp → Prop) (s : Shared) (H : Hp) (C : Addr) (cl : List (Str × Addr)) (fp : List Addr), PG (X.blkX s H scope (compEnvC scope cl C X.env) fp Wo) tg (g Wo))
    (ht : ∀ (Wo : Value → Option Addr → Hp → Prop) (s : Shared) (H : Hp) (C : Addr) (cl : List (Str × Addr)) (fp : List Addr), PTs (X.blkX s H scope (compEnvC scope cl C X.env) fp Wo) ifs (tt Wo))
    (he : ∀ (Wo : Value → Option Addr → Hp → Prop) (s : Shared) (H : Hp) (C : Addr) (cl : List (Str × Addr)) (fp : List Addr), PE (X.blkX s H scope (compEnvC scope cl C X.env) fp Wo) elt (te Wo)) (hs : ∀ x, foldedSetIterable iter X.env x = pure x := by intro _; rfl) :
    PE X (.ListComp elt [⟨tg, iter, ifs, 0⟩] scope pos) (tLcX W wi g tt te (own.map (·.2))) := by
  constructor
  intro pins s σ H Q I h
  rw [eval_ListComp]
  refine lc_coreX tp th hc hN I hi ok hg ht he hs h fun D ce s' m H' I' q hn ⟨f0, f1, zf2, f3, f4, f5⟩ => ⟨m, hn, fun h2 sb => ?_⟩
  exact ⟨.ref D, H', I'.turned (t' := s'.toks) (fun b o hb e => (sb.2 b hb).trans e) f0 f1 f3 f4 f5, rfl, q⟩
/-- stored on the spot -/
theorem ps_setLcX {i : Nat} {y : Str} {py : Pos} {elt tg iter : Expr} {ifs : List Expr} {scope : Scope} {own : List (Str × Nat)} {pos spos : Pos} {wi : TI} {g : (Value → Option Addr → Hp → Prop) → TG} {tt : (Value → Option Addr → Hp → Prop) → TT} {te : (Value → Option Addr → Hp → Prop) → TE} {W : WX} {e0 : Env} {o0 : List Env} {L : Addr} (tp : Top X e0 o0 L) (th : TakesH X W)
    (hc : X.calm = true) (hN : X.N.Nodup) (hy : X.N[i]? = some y) (hyl : X.env.scope.names.lookup y = some .local) (hsw : swapsWith (.ListComp elt [⟨tg, iter, ifs, 0⟩] scope pos) (some (.Name y py)) spos.line X.env = pure true)
    (hi : PI X tg iter wi) (ok : BlkOk X.N X.env.scope scope own) (hg : ∀ (Wo : Value → Option Addr → Hp → Prop) (s : Shared) (H : Hp) (C : Addr) (cl : List (Str × Addr)) (fp : List Addr), PG (X.blkX s H scope (compEnvC scope cl C X.env) fp Wo) tg (g Wo))
    (ht : ∀ (Wo : Value → Option Addr → Hp → Prop) (s : Shared) (H : Hp) (C : Addr) (cl : List (Str × Addr)) (fp : List Addr), PTs (X.blkX s H scope (compEnvC scope cl C X.env) fp Wo) ifs (tt Wo))
    (he : ∀ (Wo : Value → Option Addr → Hp → Prop) (s : Shared) (H : Hp) (C : Addr) (cl : List (Str × Addr)) (fp : List Addr), PE (X.blkX s H scope (compEnvC scope cl C X.env) fp Wo) elt (te Wo)) (hs : ∀ x, foldedSetIterable iter X.env x = pure x := by intro _; rfl) :
    PS X (.Assign [.Name y py] (.ListComp elt [⟨tg, iter, ifs, 0⟩] scope pos) spos) (tAsg (tLcX W wi g tt te (own.map (·.2))) (gName i)) := by
  constructor
  intro pins s σ H D I h
  rw [exec_Assign_Name_used _ _ _ _ hsw]
  refine wpAny_bind (wpAny_standAt (wpAny_bind ?_))
  show wpAny _ X.A (do let _ ← comprehension (.ListComp elt [⟨tg, iter, ifs, 0⟩] scope pos) scope X.env (firstIterPos [⟨tg, iter, ifs, 0⟩] pos) (newList []) false (eval iter X.env) (some (assign (.Name y py) X.env))) _ _ s
  have h : tLcX W wi g tt te (own.map (·.2)) σ H (fun x H1 => gName i x σ H1 D.nx) := h
  refine wpAny_bind (thn (lc_coreX (Qf := fun _ s' => SP X pins D .next s') tp th hc hN I hi ok hg ht he hs h fun Lr ce s' m H' I' q hn f => ?_) fun _ s' hq => wpAny_pure (wpAny_pure hq))
  show wpAny _ _ (assign (.Name y py) X.env (.ref Lr)) _ _ _
  refine wpAny_assign_Name (store_ok2 (v := V.ref Lr) I' hN hy (.inl hyl) rfl (fun zs2 zI2 ⟨a, sb, ha⟩ => ?_) (.inr hyl))
  obtain ⟨f0, f1, zf2, f3, f4, f5⟩ := f
  have haC : ce.locals ≠ a := by
    rcases ha with z | z
    · rw [z]; exact f1
    · exact fun e => f4 y a z e.symm
  exact ⟨m, hn.sameBut sb haC, fun h3 sb3 => ⟨_, H', zI2.turned (t' := zs2.toks) (fun b o hb e => (sb3.2 b hb).trans e) f0 f1 f3 f4 f5, q⟩⟩
end
end Pg
/-! enumerate and zip as sources of a loop. -/
namespace Pg.TE
open PySem PySem.Spec PyProof.Rows
theorem drawTup {prog : Program} {w : World} {A : Around} (hh : A.handled = none) (it l : Addr) (hne : l ≠ it) (its : Array Value) :
    Draws prog w A it [it, l] its.size (fun i v => its[i]? = some v) (fun i h => h.IsTupleIter it l i ∧ h.IsTuple l its) where
  live := fun _ _ q => let ⟨o, ho, _⟩ := q.1; ⟨o, ho⟩
  frame := fun _ _ _ q hk => by
    obtain ⟨⟨o, ho, r⟩, ⟨o2, ho2, r2⟩⟩ := q
    exact ⟨⟨o, hk it (by simp) _ ho, r⟩, ⟨o2, hk l (by simp) _ ho2, r2⟩⟩
  item := fun i s Q E hi q hQ => RZ.nextOf_tuple_item q.1 q.2 (x := its[i]) (by simp [hi]) fun h' k1 k2 => hQ _ h' s.toks (by simp [hi]) ⟨k1, q.2.extBut k2.extBut hne⟩ k2
  done := fun s Q E q hE => RZ.nextOf_tuple_end hh q.1 q.2 (by simp) hE
abbrev itO (l : Addr) : Obj := { cls := .type "tuple_iterator", data := .fields #[.ref l, .int 0 0] }
abbrev enO (a : Addr) : Obj := { cls := .type "enumerate", data := .fields #[.none, .bool false, .ref a, rawInt 0, .none, .none] }
theorem newTup (l : Addr) (o : Obj) (its : Array Value) (n : Nat) (hc : o.cls = .type "tuple") (hd : o.data = .seq its n) :
    Meets (Builtin.«enumerate.__new__» ⟨[.type "enumerate", .ref l], []⟩) (fun _ R s => s.heap.get? l = some o ∧ R (.ok (.ret (.ref (s.heap.push (itO l)).objs.size))) { s with heap := (s.heap.push (itO l)).push (enO s.heap.objs.size) }) :=
  .of_wp fun prog w A R s h => by
    obtain ⟨hp, g, d, tk, os⟩ := s
    obtain ⟨hl, h⟩ := h
    have hsub := sub_enumerate
    have hL : Heap.IsTuple (Shared.heap ⟨hp, g, d, tk, os⟩) l its := ⟨_, hl, hc, n, hd⟩
    obtain ⟨c, dct, dt, sl⟩ := o
    dsimp only at hc hd
    subst hc hd
    wp_walk using AutoSeq1.wpAny_loadPart' hl
    refine wpAny_stack_any fun st => wpAny_pure ?_
    split
    · rename_i c _ _ _ _ _
      cases (c == Value.type "enumerate") <;> (wp_walk using AutoSeq1.wpAny_loadPart' hl, wpAny_pyIter_tuple hL) <;> exact ⟨_, rfl, h⟩
    · wp_walk using AutoSeq1.wpAny_loadPart' hl, wpAny_pyIter_tuple hL
      exact ⟨_, rfl, h⟩
section
variable {prog : Program} {w : World} {A : Around} {E : Value → Shared → Prop} {s : Shared}
theorem call_tup {l : Addr} {its : Array Value} {Q : Value → Shared → Prop} (hL : s.heap.IsTuple l its)
    (h : ∀ h', IsEnum h' (s.heap.objs.size + 1) s.heap.objs.size 0 .none → h'.IsTupleIter s.heap.objs.size l 0 → h'.objs.size = s.heap.objs.size + 2 → (∀ b o, s.heap.get? b = some o → h'.get? b = some o) → Q (.ref (s.heap.objs.size + 1)) { s with heap := h' }) :
    wpAny (model prog w) A (call (.type "enumerate") [.ref l]) Q E s := by
  obtain ⟨o, hl, hc, n, hd⟩ := hL
  refine callType_new F.called_enumerate (by decide) (F.typeCall_enumerate_1 _) (F.newCall_enumerate_1 _) (fun obj => F.args_object_init_2 obj _) F.entry_enumerate_new (newTup l o its n hc hd) ⟨hl, ?_⟩
  have hz : (s.heap.push (itO l)).objs.size = s.heap.objs.size + 1 := Heap.size_push ..
  show _ ∧ _
  rw [hz]
  have he : IsEnum ((s.heap.push (itO l)).push (enO s.heap.objs.size)) (s.heap.objs.size + 1) s.heap.objs.size 0 .none := by
    have z := Heap.get?_push_size (s.heap.push (itO l)) (o := enO s.heap.objs.size) rfl
    rw [hz] at z
    exact z
  exact ⟨⟨_, he, rfl⟩, h _ he ⟨_, Heap.get?_push_of_some _ (Heap.get?_push_size _ rfl), rfl, rfl⟩ (by rw [Heap.size_push, hz]) fun b o x => Heap.get?_push_of_some _ (Heap.get?_push_of_some _ x)⟩
end
end Pg.TE
namespace Pg
open PySem PySem.Spec PyProof.Rows L2
namespace TE
theorem next_end {prog : Program} {w : World} {A : Around} {E : Value → Shared → Prop} {s : Shared} {e it l : Addr} {i : Nat} {its : Array Value} {old : Value} {Q : Option Value → Shared → Prop} (hh : A.in1.handled = none) (he : IsEnum s.heap e it i old) (hit : s.heap.IsTupleIter it l i) (hl : s.heap.IsTuple l its) (hx : its[i]? = none)
    (hQ : ∀ h', Heap.ExtBut it s.heap h' → Q none { s with heap := h' }) : wpAny (model prog w) A (pyNext (.ref e)) Q E s := by
  have hT : s.TypeIs (.ref e) "enumerate" := ⟨_, he, rfl⟩
  have go : wpAny (model prog w) A.in1 (Builtin.SmallTypes.nextOf (.ref it)) (fun _ _ => False) (fun x s' => (∃ o, s'.heap.get? (match x with | .ref b => b | _ => 0) = some o ∧ o.cls = .type "StopIteration") ∧ (∃ b, x = .ref b) ∧ ∃ h', Heap.ExtBut it s.heap h' ∧ s' = { s with heap := h' }) s := RZ.nextOf_tuple_end hh hit hl hx fun h' b k ho => ⟨ho, ⟨b, rfl⟩, h', k, rfl⟩
  unfold pyNext
  refine wpAny_bind (wpAny_attempt (wpAny_callSpecial?_slot (name := Str.ofString "__next__") hT F.slot_enumerate_next (wpAny_call_entry F.slot_enumerate_next hT F.entry_enumerate_next ?_ (F.args_enumerate_next_1 _))))
  show wpAny _ _ (field (.ref e) 2 >>= _) _ _ _
  refine wpAny_bind (wpAny_field he rfl (x := .ref it) rfl (wpAny_bind (wpAny_mono go (fun _ _ z => z.elim) fun x s' z => ?_)))
  obtain ⟨⟨o, ho, hc⟩, ⟨b, rfl⟩, h', k, rfl⟩ := z
  exact wpAny_bind (wpAny_isInstance (T := "StopIteration") (b := true) ⟨o, ho, hc⟩ isSubtype_stop (wpAny_pure (hQ _ k)))
end TE
/-- a tuple, its items in new pairs with their places -/
def IteT (K : PySem.W.Frag) (a : Addr) : It :=
  ⟨fun i H => ∃ (xs : List V) (x : V), SqT K H a xs ∧ xs[i]? = some x,
   fun i H v H' => ∃ T x, v = .ref T ∧ H T = none ∧ H' = upd H T (.tup [.int (i : Nat), x]) ∧ ∀ xs, SqT K H a xs → xs[i]? = some x,
   fun i H => ∃ xs : List V, SqT K H a xs ∧ xs.length ≤ i⟩
theorem apartT {h : Heap} {a it : Addr} {i : Nat} {its : Array Value} (p : h.IsTuple a its) (q : h.IsTupleIter it a i) : a ≠ it := fun e => by
  subst e
  obtain ⟨o, e1, c1, _⟩ := p
  obtain ⟨o', e2, c2, _⟩ := q
  have z := (congrArg Obj.cls (Option.some.inj (e1.symm.trans e2)))
  rw [c1, c2] at z
  exact absurd z (by decide)
theorem tupIt_at {h h' : Heap} {it a : Addr} {i : Nat} (q : h.IsTupleIter it a i) (k : ∀ o, h.get? it = some o → h'.get? it = some o) : h'.IsTupleIter it a i := let ⟨o, e, r⟩ := q; ⟨o, k o e, r⟩
theorem turn_enumT {P : Program} {w : World} {K : PySem.W.Frag} {elts : List Expr} {kk : Nat} {tpos : Pos} (a e it : Addr) :
    Turn P w K (.Tuple elts kk tpos) (IteT K a) [e, it] e (fun i h => (∃ old, IsEnum h e it ((i : Nat) : Int) old) ∧ h.IsTupleIter it a i ∧ e ≠ it) where
  mem := by simp
  obj := fun i h q b hb => by
    obtain ⟨⟨old, he⟩, ⟨o, ho, hc, hd⟩, _⟩ := q
    rcases (show b = e ∨ b = it by simpa using hb) with z | z
    · rw [z]; exact ⟨_, he, fun v y => by cases y⟩
    · rw [z]; exact ⟨o, ho, fun v y => by rw [hd] at y; cases y⟩
  keep := fun i h h' q k => by
    obtain ⟨⟨old, he⟩, hi, hne⟩ := q
    exact ⟨⟨old, k e (by simp) _ he⟩, tupIt_at hi fun o z => k it (by simp) o z, hne⟩
  item := by
    intro X hP hw hK hc i pins s σ H E I hf q hg
    subst hP hw hK
    obtain ⟨⟨old, he⟩, hit, hne⟩ := q
    obtain ⟨xs, x, hq, hx⟩ := hg
    obtain ⟨its, rv, p, hz⟩ := I.tuple hq
    obtain ⟨u, hu, ru⟩ := rv.get hx
    have p' : s.heap.IsTuple a its.toArray := p
    have hel : e < s.heap.objs.size := Heap.lt_size he
    have hil : it < s.heap.objs.size := by obtain ⟨_, z, _⟩ := hit; exact Heap.lt_size z
    have hli := (List.getElem?_eq_some_iff.mp hu).1
    have hae : e ≠ a := fun z => by
      obtain ⟨o, e1, c1, _⟩ := p'
      rw [← z, he] at e1
      have y : Value.type "enumerate" = o.cls := congrArg Obj.cls (Option.some.inj e1)
      rw [c1] at y
      exact absurd y (by decide)
    have hh : X.A.in1.handled = none := I.ok.hd hc
    refine wpAny_pyNext_enum_itemD (TE.drawTup hh it a (apartT p' hit) its.toArray) he ⟨hit, p'⟩ (by simpa using hli) hne (by simp [hne, hae]) fun u' h' tk hu' ho st' hT hsz hk => ?_
    have eu : u' = u := by
      have z : its.toArray[i]? = some u := by simpa using hu
      rw [z] at hu'
      exact (Option.some.inj hu').symm
    subst eu
    refine ⟨_, rfl, wpAny_letOwnedTupleGo_enum (s := { s with heap := h', toks := tk + 1 }) ho fun h'' he' sb => ?_⟩
    have hT2 : h''.get? s.heap.objs.size = some { cls := .type "tuple", data := .seq #[.int i tk, u'] } := (sb.2 _ (Nat.ne_of_gt hel)).trans hT
    have new : ObjOk X.prog X.w (upd H s.heap.objs.size (.tup [.int (i : Nat), x])) h'' s.heap.objs.size (.tup [.int (i : Nat), x]) :=
      ⟨show 2 ≤ sizeLine by decide, [.int i tk, u'], .cons ⟨_, rfl⟩ (.cons ru .nil), ⟨_, hT2, rfl, _, rfl⟩⟩
    have I1 : Inv X pins σ (upd H s.heap.objs.size (.tup [.int (i : Nat), x])) { s with heap := h'', toks := tk + 1 } :=
      I.turnedNew (t' := tk + 1) (ch := [e, it]) (fun b ob hb z => (sb.2 b (fun y => hb (by simp [y]))).trans (hk b ob (fun y => hb (by simp [y])) (fun y => hb (by simp [y])) z)) hf (Nat.le_refl _) new
    refine ⟨.ref s.heap.objs.size, _, I1, rfl, ⟨_, x, rfl, I.hok.fresh (Nat.le_refl _), rfl, fun ys hy => by rw [I.tuple_inj hy hq]; exact hx⟩, ⟨⟨u', ?_⟩, tupIt_at st'.1 fun o z => (sb.2 it (Ne.symm hne)).trans z, hne⟩, fun b hb => ?_⟩
    · have e1 : ((i + 1 : Nat) : Int) = (i : Int) + 1 := by omega
      rw [e1]; exact he'
    · have hb' : b < s.heap.objs.size := by
        rcases (show b = e ∨ b = it by simpa using hb) with z | z
        · exact z ▸ hel
        · exact z ▸ hil
      rw [upd_ne (Nat.ne_of_lt hb')]
      exact (hf b hb).1
  done := by
    intro X hP hw hK hc i pins s σ H E I hf q hg
    subst hP hw hK
    obtain ⟨⟨old, he⟩, hit, hne⟩ := q
    obtain ⟨xs, hq, hx⟩ := hg
    obtain ⟨its, rv, p, hz⟩ := I.tuple hq
    have p' : s.heap.IsTuple a its.toArray := p
    have hh : X.A.in1.handled = none := I.ok.hd hc
    obtain ⟨f0, f1, f2, f3, f4, f5⟩ := hf it (by simp)
    have hl := rv.length
    exact TE.next_end hh he hit p' (by simp; omega) fun h' eb => ⟨rfl, I.turned (t' := s.toks) (fun b o hb z => eb b o hb z) f0 f1 f3 f4 f5⟩
  self := fun A i s Q E q h => let ⟨⟨_, he⟩, _⟩ := q; wpAny_pyIter_enum he h
/-- enumerate(t), t a tuple -/
def iEnT (K : PySem.W.Frag) (ta : TA) : TI := fun σ H R => ta σ H fun vs H1 => ∃ a xs, vs = [.ref a] ∧ SqT K H1 a xs ∧ R (IteT K a) H1
theorem pi_enT {X : Cx} {e : Expr} {ta : TA} {p pos tpos : Pos} {elts : List Expr} {kk : Nat} (hg : Gl X "enumerate") (hm : X.mg "enumerate" = none) (ha : PA X [e] ta) (hs : starEach [e] X.env = [(false, eval e X.env)] := by rfl) :
    PI X (.Tuple elts kk tpos) (.Call (.Name "enumerate" p) [e] [] pos) (iEnT X.K ta) := by
  refine ⟨fun pins s σ H R I h => ?_⟩
  refine Call_ (ld_blt I hg hm boot_enumerate (PyProof.Rows.callWith_type1 (thn (ha.run pos pins s σ H _ I h) fun us s1 ⟨vs, H1, I1, r1, a, xs, ex, hq, q⟩ => ?_) hs rfl))
  subst ex
  cases r1 with
  | @cons _ u0 _ _ r rr =>
    cases rr
    obtain rfl : u0 = Value.ref a := r
    obtain ⟨its, rv, p', hz⟩ := I1.tuple hq
    refine TE.call_tup (show s1.heap.IsTuple a its.toArray from p') fun h' he hit hsz hk => wpAny_pyIter_enum he ?_
    have I2 : Inv X pins σ H1 { s1 with heap := h' } := I1.kept (t' := s1.toks) hk
    refine ⟨s1.heap.objs.size + 1, [s1.heap.objs.size + 1, s1.heap.objs.size], _, _, H1, rfl, I2, turn_enumT a (s1.heap.objs.size + 1) s1.heap.objs.size, ⟨⟨.none, he⟩, hit, Nat.succ_ne_self _⟩, fun b hb => ?_, q⟩
    have hle : s1.heap.objs.size ≤ b := by
      rcases (show b = s1.heap.objs.size + 1 ∨ b = s1.heap.objs.size by simpa using hb) with z | z
      · exact z ▸ Nat.le_add_right _ _
      · exact z ▸ Nat.le_refl _
    exact I1.fpOk hle (I1.hok.fresh hle)
end Pg
/-! errors and lambdas at the machine. -/
namespace Pg
open PySem PySem.Spec PyProof.Rows L2

/-- a clause: the class, the slot of its name, its suite -/
structure Cl where
  c : Value
  sl : Option Nat
  ts : Addr → Value → Option Addr → TS
def offE (D : Ends) : Option Nat → Ends
  | none => D
  | some i => ⟨fun σ H => D.nx (σ.set i none) H, D.rt, fun σ H => D.bk (σ.set i none) H, fun σ H => D.ct (σ.set i none) H⟩
def onE (σ : L2.St) (a : Addr) : Option Nat → L2.St
  | none => σ
  | some i => σ.set i (some (.ref a))
def wTries (K : PySem.W.Frag) (out : WX) (D : Ends) : List Cl → WX
  | [] => out
  | k :: r => fun cls d σ H => ∃ b, PySem.W.exmOne K cls k.c = some b ∧
      (b = true → ∀ a, H a = none → k.ts a cls d (offE D k.sl) (onE σ a k.sl) H) ∧ (b = false → wTries K out D r cls d σ H)
inductive NmOk (X : Cx) : Option Str → Option Nat → Prop
  | no : NmOk X none none
  | yes {n : Str} {i : Nat} (hi : X.N[i]? = some n) (hl : X.env.kindOf n = some .local) : NmOk X (some n) (some i)
inductive Cls (X : Cx) : List ExceptHandler → List Cl → Prop
  | nil : Cls X [] []
  | cons {x : Str} {nm : Option Str} {k : Cl} {b0 : Stmt} {bs : List Stmt} {np q : Pos} {hds : List ExceptHandler} {l : List Cl} (hc : Names X x k.c) (hn : NmOk X nm k.sl)
      (run : ∀ (a : Addr) (o : Obj) (cls : Value) (d : Option Addr) (pn : List (Addr × Obj)), Zc cls d o → (∃ vs, o.data = .fields vs) → PSs (X.suite a ((a, o) :: pn)) (b0 :: bs) (k.ts a cls d)) (r : Cls X hds l) :
      Cls X (.ExceptHandler (some (.Name x np)) nm (b0 :: bs) q :: hds) (k :: l)

theorem ps_tries {X : Cx} {body : List Stmt} {h0 : ExceptHandler} {hds : List ExceptHandler} {l : List Cl} {pos : Pos} {tb : WX → TS} {out : WX} (hs : X.stack = X.env :: X.outer)
    (hf : X.env.frame = some X.env.locals) (hN : X.N.Nodup) (tk : Takes X out)
    (hb : ∀ (W : WX) (pn : List (Addr × Obj)) (xe : Value → Shared → Prop), Takes (X.tr pn xe) W → PassesOwn (model X.prog X.w) X.A X.env xe → PSs (X.tr pn xe) body (tb W)) (hh : Cls X (h0 :: hds) l) :
    PS X (.Try body (h0 :: hds) [] [] pos) (fun D σ H => tb (wTries X.K out D l) D σ H) := by
  constructor
  intro pins s σ H D I h
  have ok := I.ok
  have hfr : X.A.frames = some (X.env :: X.outer) := ok.frames.trans (by rw [hs])
  refine wpAny_Try_except ?_
  have run := hb (wTries X.K out D l) (X.pn ++ pins) (fun e s1 => wpAny (model X.prog X.w) X.A (noteFrame e X.env) (fun _ s2 => wpAny (model X.prog X.w) X.A (setFlight e none) (fun _ s3 => wpAny (model X.prog X.w) X.A (handleBy e X.env (h0 :: hds)) (SP X pins D) X.xe s3) X.xe s2) X.xe s1) ?_ PassesOwn.looking
  · refine wpAny_mono (run.run [] s σ H D (I.toTry _) h) (fun f s1 hsp => ?_) fun e s1 he => he
    cases f <;> dsimp only [SP] at hsp
    · obtain ⟨σ', H', J, q⟩ := hsp
      exact wpAny_execs_nil ⟨σ', H', J.ofTry ok, q⟩
    all_goals first
      | (obtain ⟨σ', H', J, q⟩ := hsp; exact ⟨σ', H', J.ofTry ok, q⟩)
      | (obtain ⟨v, σ', H', J, r, q⟩ := hsp; exact ⟨v, σ', H', J.ofTry ok, r, q⟩)
  intro u s' xx
  obtain ⟨a, B, sI, pins', σ', H', cls, d, rfl, J', nb, up, sky, na, os, ag, w⟩ := xx
  have J : Inv X pins σ' H' sI := J'.ofTry ok
  have sk : Sky B (X.env :: X.outer) a (Zc cls d) X.env.locals s'.heap := hs ▸ sky
  show wpAny (model X.prog X.w) X.A (noteFrame (.ref a) X.env) _ _ _
  refine Sky.land Zc.steady hfr hf sk fun h3 fl up3 => ?_
  have J3 : Inv X pins σ' H' ⟨h3, s'.gens, s'.drawn, s'.toks, s'.os⟩ := J.landed nb fl.1 (up.trans up3) os ag
  obtain ⟨o3, v3, e3, z3, d3⟩ := fl.there
  have nfr : a ∉ frs (X.env :: X.outer) := by
    intro hm
    obtain ⟨_, o', e', hnf⟩ := fl.2.2.1.mem hm
    rw [e3] at e'
    cases e'
    exact hnf _ d3
  have nL : a ≠ X.env.locals := by
    intro z
    exact nfr (List.mem_filterMap.mpr ⟨X.env, List.mem_cons_self, by rw [hf, z]⟩)
  have nF : a ∉ X.fs := by
    intro hm
    obtain ⟨e, he, q⟩ := List.mem_filterMap.mp hm
    exact nfr (List.mem_filterMap.mpr ⟨e, List.mem_cons_of_mem _ he, q⟩)
  have S3 := J3.suite e3 d3 na nL nF
  suffices go : ∀ {hs' : List ExceptHandler} {l' : List Cl}, Cls X hs' l' → wTries X.K out D l' cls d σ' H' → wpAny (model X.prog X.w) X.A (handleBy (.ref a) X.env hs') (SP X pins D) X.xe ⟨h3, s'.gens, s'.drawn, s'.toks, s'.os⟩ from go hh w
  intro hs' l' hk
  induction hk with
  | nil =>
    intro w
    refine wpAny_handleBy_nil ?_
    obtain ⟨_, _, _, oe, vs, T, oT, ts', he, _, hd, h1, _⟩ := id fl
    unfold PySem.passOn
    refine wpAny_bind (wpAny_field he hd h1 ?_)
    have nn : ¬ ((Value.ref T == Value.none) = true) := by simp
    rw [if_neg nn]
    have fin : wpAny (model X.prog X.w) X.A (setFlight (.ref a) X.env.frame) (fun _ s4 => wpAny (model X.prog X.w) X.A (throw (.ref a) : Sem Flow) (SP X pins D) X.xe s4) X.xe ⟨h3, s'.gens, s'.drawn, s'.toks, s'.os⟩ := by
      rw [hf]
      exact HandSPX.setFlight_upZ fl fun h4 hh4 up4 => wpAny_throw (tk _ _ ⟨a, B, sI, pins, σ', H', cls, d, rfl, J, nb, (up.trans up3).trans up4, .inr (.inr (by rw [hs]; exact hh4)), na, os, ag, w⟩)
    first | exact wpAny_bind (wpAny_pure (wpAny_bind fin)) | exact wpAny_bind fin
  | @cons x nm k b0 bs np q hds2 l2 hc hn hsu r ih =>
    intro w
    obtain ⟨b, hb1, hyes, hno⟩ := w
    refine wpAny_handleBy_cons (codeAny_handlers_test ?_) (by intro q; cases q)
    have LT : PySem.W.Looks (model X.prog X.w) h3 (typeOf (.ref a)) cls := by
      intro A Q E s k q
      exact wpAny_typeOf_ref (k _ _ e3) (by rw [z3.1]; exact q)
    have LM := PySem.W.exm_one (M := model X.prog X.w) J3.kIn LT hb1
    have test : ∀ {Q E : Value → Shared → Prop}, Q k.c ⟨h3, s'.gens, s'.drawn, s'.toks, s'.os⟩ → wpAny (model X.prog X.w) (X.A.mark (some (.ref a))) (eval (.Name x np) X.env) Q E ⟨h3, s'.gens, s'.drawn, s'.toks, s'.os⟩ := by
      intro Q E z
      obtain ⟨hg, hdb, hm | ⟨hm, hv, hnn⟩⟩ := hc
      · exact ld_glob (X := X.suite a ((a, o3) :: (X.pn ++ pins))) S3 hg hm z hdb
      · exact ld_blt (X := X.suite a ((a, o3) :: (X.pn ++ pins))) S3 hg hm hv z hnn hdb
    refine test (LM.here ?_)
    cases b with
    | false =>
      show wpAny _ X.A (handleBy (.ref a) X.env hds2) _ _ _
      exact ih (hno rfl)
    | true =>
      have y := hyes rfl a na
      revert hn y
      cases hsl : k.sl with
      | none =>
        intro hn y
        cases hn
        refine codeAny_handlers_suite ?_
        refine HandSPX.lands_againZ fl fun h4 f4 up4 => ?_
        have J4 : Inv X pins σ' H' ⟨h4, s'.gens, s'.drawn, s'.toks, s'.os⟩ := J.landed nb f4.1 ((up.trans up3).trans up4) os ag
        obtain ⟨o4, v4, e4, z4, d4⟩ := f4.there
        refine wpAny_mono ((hsu a o4 cls d (X.pn ++ pins) z4 ⟨_, d4⟩).run [] _ _ H' _ (J4.suite e4 d4 na nL nF) y) (fun f s6 hsp => ?_) fun _ _ z => False.elim z
        cases f <;> dsimp only [SP] at hsp
        all_goals first
          | (obtain ⟨σ6, H6, S6, q6⟩ := hsp; exact ⟨_, _, S6.unsuite ok, q6⟩)
          | (obtain ⟨v6, σ6, H6, S6, r6, q6⟩ := hsp; exact ⟨_, _, _, S6.unsuite ok, r6, q6⟩)
      | some i =>
        intro hn y
        cases hn with
        | @yes n _ hi hl =>
        refine codeAny_handlers_suite_as ?_
        refine HandSPX.lands_againZ fl fun h4 f4 up4 => ?_
        have J4 : Inv X pins σ' H' ⟨h4, s'.gens, s'.drawn, s'.toks, s'.os⟩ := J.landed nb f4.1 ((up.trans up3).trans up4) os ag
        obtain ⟨o4, v4, e4, z4, d4⟩ := f4.there
        refine store_ok (X := X.suite a ((a, o4) :: (X.pn ++ pins))) (v := .ref a) (J4.suite e4 d4 na nL nF) hN hi (.inl hl) rfl (fun s5 S5 => ?_) (.inr hl)
        refine wpAny_mono ((hsu a o4 cls d (X.pn ++ pins) z4 ⟨_, d4⟩).run [] s5 _ H' _ S5 y) (fun f s6 hsp => ?_) fun _ _ z => False.elim z
        have end_ : ∀ {σ6 : L2.St} {H6 : Hp} {Q : Shared → Prop}, Inv (X.suite a ((a, o4) :: (X.pn ++ pins))) [] σ6 H6 s6 → (∀ s7, Inv X pins (σ6.set i none) H6 s7 → Q s7) → wpAny (model X.prog X.w) X.A (do bindName X.env n .none; unbindBehindTheSuite X.env n q) (fun _ s7 => Q s7) X.xe s6 := by
          intro σ6 H6 Q S6 hq
          exact gone_ok (S6.unsuite ok) hN hi hl hq
        cases f <;> dsimp only [SP] at hsp
        all_goals first
          | (obtain ⟨σ6, H6, S6, q6⟩ := hsp; exact end_ S6 fun s7 J7 => ⟨_, _, J7, q6⟩)
          | (obtain ⟨v6, σ6, H6, S6, r6, q6⟩ := hsp; exact end_ S6 fun s7 J7 => ⟨_, _, _, J7, r6, q6⟩)
end Pg

namespace Pg
open PySem PySem.Spec PyProof.Rows L2
/-- own classes, then the tail -/
inductive RefsTo (tl : List Value) : List Value → Prop
  | done : RefsTo tl tl
  | ref {c : Addr} {r : List Value} (h : RefsTo tl r) : RefsTo tl (.ref c :: r)
def isRef : Value → Bool
  | .ref _ => true
  | _ => false
def refsB (tl l : List Value) : Bool := l.dropWhile isRef == tl
theorem refsB_ok {tl : List Value} : ∀ {l : List Value}, refsB tl l = true → RefsTo tl l
  | [], h => by
    have z : [] = tl := by simpa [refsB] using h
    rw [← z]; exact .done
  | v :: r, h => by
    unfold refsB at h
    rw [List.dropWhile_cons] at h
    by_cases q : isRef v = true
    · rw [if_pos q] at h
      cases v with
      | ref c => exact .ref (refsB_ok h)
      | _ => cases q
    · rw [if_neg q] at h
      have z : v :: r = tl := by simpa using h
      rw [← z]; exact .done
structure Tl (tl : List Value) : Prop where
  pass : ∀ self : Value, refuseLoop self "__setattr__" tl = pure ()
  obj : tl.contains (.type "object") = true
theorem RefsTo.pass {tl l : List Value} (T : Tl tl) (self : Value) (h : RefsTo tl l) : refuseLoop self "__setattr__" l = pure () := by
  induction h with
  | done => exact T.pass self
  | ref h ih => exact (refuseLoop_ref _ _ _ _).trans ih
theorem RefsTo.cont {tl l : List Value} (x : String) (h : RefsTo tl l) : l.contains (.type x) = tl.contains (.type x) := by
  induction h with
  | done => rfl
  | ref h ih => rw [List.contains_cons, ih]; rfl
theorem RefsTo.ne {tl l : List Value} (T : Tl tl) (h : RefsTo tl l) : l.isEmpty = false := by
  have z := (h.cont "object").trans T.obj
  cases l with
  | nil => cases z
  | cons _ _ => rfl
theorem tl_VE : Tl [.type "ValueError", .type "Exception", .type "BaseException", .type "object"] := ⟨fun self => by kernel_rfl, by decide +kernel⟩
theorem tl_IE : Tl [.type "IndexError", .type "LookupError", .type "Exception", .type "BaseException", .type "object"] := ⟨fun self => by kernel_rfl, by decide +kernel⟩
theorem tl_KE : Tl [.type "KeyError", .type "LookupError", .type "Exception", .type "BaseException", .type "object"] := ⟨fun self => by kernel_rfl, by decide +kernel⟩
theorem tl_RE : Tl [.type "RuntimeError", .type "Exception", .type "BaseException", .type "object"] := ⟨fun self => by kernel_rfl, by decide +kernel⟩
theorem tl_OE : Tl [.type "OverflowError", .type "ArithmeticError", .type "Exception", .type "BaseException", .type "object"] := ⟨fun self => by kernel_rfl, by decide +kernel⟩
theorem tl_AE : Tl [.type "ArithmeticError", .type "Exception", .type "BaseException", .type "object"] := ⟨fun self => by kernel_rfl, by decide +kernel⟩
section
open Builtin Builtin.ObjectAttr
variable {prog : Program} {w : World} {A : Around} {R : Result → Shared → Prop} {hp : Heap} {g : Array GenState} {d : Drawn} {t : Nat} {os : OsState}
theorem osa_first {K : PySem.W.Frag} {nm : Str} {tk : Tok} {v : Value} {x C : Addr} {fv : Array Value} {cd : ClassData} {tl : List Value} (T : Tl tl) (X : K.In hp) (hx : hp.get? x = some { cls := .ref C, data := .fields fv })
    (hcd : PySem.W.clsIn K C = some cd) (hm : RefsTo tl cd.mro) (hh : cd.hasDict = true) (ha : PySem.W.findIn K (.ref C) nm = some none)
    (hq : ∀ h' tk' dx, (∀ b o, b ≠ x → hp.get? b = some o → h'.get? b = some o) → hp.objs.size ≤ dx → dx ≠ x → h'.get? x = some { cls := .ref C, dict := some dx, data := .fields fv } → h'.Ns1 dx (fun y => if y = nm then some v else none) → R (.ok (.ret .none)) ⟨h', g, d, tk', os⟩) :
    codeAny (model prog w) A (.call (.builtin "object.__setattr__") ⟨[.ref x, .str nm tk, v], []⟩) R ⟨hp, g, d, t, os⟩ := by
  have I : PySem.W.InstAt hp x { cls := .ref C, data := .fields fv } C none := ⟨hx, rfl, rfl, trivial⟩
  have SO := PySem.F.store_object
  have hob : cd.mro.contains (.type "object") = true := (hm.cont "object").trans T.obj
  have xs : x ≠ hp.objs.size := Nat.ne_of_lt (Heap.lt_size hx)
  have look : PySem.W.mroIn K C (.type "object") = some true := by
    unfold PySem.W.mroIn
    rw [hcd, Option.bind_some, if_neg (by rw [hm.ne T]; decide), hob]
  have sub : PySem.W.Looks (model prog w) hp (isInstance (.ref x) (.type "object")) true := I.type.andThen (PySem.W.looks_mroIn X look)
  refine codeAny_call_builtin SO.slot.plain SO.entry (@PySem.W.check_slot (model prog w) _ _ ⟨hp, g, d, t, os⟩ "object.__setattr__" "object" "__setattr__" (.ref x) [.str nm tk, v] [] _ SO.kind SO.split sub (SO.args (.ref x) (.str nm tk) v) ?_)
  have seen : PySem.W.Looks (model prog w) hp (classData C) cd := PySem.W.looks_clsIn X hcd
  have along : PySem.W.Looks (model prog w) hp (mroOf (.ref C)) cd.mro := seen.andThen .now
  have taker : PySem.W.Looks (model prog w) hp (storeTaker? none) none := .now
  rw [PySem.W.osa_eq, refuse_eq]
  refine wpAny_bind (wpAny_bind (I.type.at (wpAny_bind (along.at ?_))))
  rw [hm.pass T]
  refine wpAny_pure (wpAny_bind (I.type.at (wpAny_bind ((PySem.W.looks_findIn X ha).at (wpAny_bind (taker.at ?_))))))
  show wpAny _ _ (storeInOwnDict (.ref x) (.ref C) (.str nm tk) nm v false) _ _ _
  rcases cd with ⟨n0, bs, mro, ns, qn, hd, sn, sb, ab, col, del⟩
  dsimp only at hh
  subst hh
  unfold storeInOwnDict ownDictForStores
  repeat (first | with_reducible refine PySem.HandSPX.store_in_new ?_ ?_ | with_reducible refine wpAny_loadPart_at hx ?_ | with_reducible refine seen.at ?_ | wp_step)
  · refine ⟨_, #[], _, (Heap.get?_update_ne _ _ _ _ xs.symm).trans (Heap.get?_push_at rfl rfl), rfl, ?_, fun _ => rfl⟩
    intro e he
    exact absurd he (by simp)
  · intro h' tk' hn' hs
    have hx1 : (hp.push { cls := .type "dict", data := .dict #[] }).get? x = some { cls := .ref C, data := .fields fv } := Heap.get?_push_of_some _ hx
    refine hq h' tk' hp.objs.size ?_ (Nat.le_refl _) xs.symm ((hs.2 x xs).trans (Heap.get?_update_self _ hx1 rfl)) hn'
    intro b o hb ho
    exact (hs.2 b (Nat.ne_of_lt (Heap.lt_size ho))).trans ((Heap.get?_update_ne _ _ _ _ hb).trans (Heap.get?_push_of_some _ ho))
end
/-- what the written part says of an own error's class: nw the base's maker, tl its line -/
structure OxC (K : PySem.W.Frag) (C : Addr) (nw : String) (tl : List Value) : Prop where
  cls : ∃ nm q N bs bm sn sub ab col dd k0 k1 k2 k3 k5, K.lookup C = some (excClassObj nm q C N bs bm true sn sub ab col dd k0 k1 k2 k3 k5 nw) ∧ RefsTo tl bm
  sa : PySem.W.findIn K (.ref C) "__setattr__" = some (some (.builtin "object.__setattr__"))
  ex : PySem.W.subIn K (.ref C) (.type "BaseException") = some true
  ty : PySem.W.typeIn K (.ref C) = some (.type "type")
  kp : PySem.W.keepIn K (.ref C) = true
def oxB1 (C : Addr) (nw : String) (tl : List Value) : Obj → Bool
  | ⟨.type "type", _, .cls cd, sl⟩ => decide (cd.mro.head? = some (.ref C)) && (refsB tl cd.mro.tail && (cd.hasDict && (!cd.hasDel && (match sl.toList with
    | [_, _, _, _, some (.builtin n), _] => n == nw
    | _ => false))))
  | _ => false
theorem oxB1_ok {C : Addr} {nw : String} {tl : List Value} {o : Obj} (h : oxB1 C nw tl o = true) : ∃ nm q N bs bm sn sub ab col dd k0 k1 k2 k3 k5, o = excClassObj nm q C N bs bm true sn sub ab col dd k0 k1 k2 k3 k5 nw ∧ RefsTo tl bm := by
  unfold oxB1 at h
  split at h
  · rename_i dd cd sl
    obtain ⟨nm, bs, mro, ns, qn, hd, sn, sub, ab, col, del⟩ := cd
    simp only [Bool.and_eq_true, Bool.not_eq_true', decide_eq_true_eq] at h
    obtain ⟨h1, h2, rfl, rfl, h3⟩ := h
    cases mro with
    | nil => cases h1
    | cons a r =>
      cases h1
      split at h3
      · rename_i k0 k1 k2 k3 n k5 e
        have e2 : n = nw := by simpa using h3
        subst e2
        obtain ⟨l⟩ := sl
        dsimp only at e
        subst e
        exact ⟨nm, qn, ns, bs, r, sn, sub, ab, col, dd, k0, k1, k2, k3, k5, rfl, refsB_ok h2⟩
      · cases h3
  · cases h
def oxB (K : PySem.W.Frag) (C : Addr) (nw : String) (tl : List Value) : Bool := (match K.lookup C with
    | some o => oxB1 C nw tl o
    | none => false) && (decide (PySem.W.findIn K (.ref C) "__setattr__" = some (some (.builtin "object.__setattr__"))) && (decide (PySem.W.subIn K (.ref C) (.type "BaseException") = some true) && (decide (PySem.W.typeIn K (.ref C) = some (.type "type")) && PySem.W.keepIn K (.ref C))))
theorem oxB_ok {K : PySem.W.Frag} {C : Addr} {nw : String} {tl : List Value} (h : oxB K C nw tl = true) : OxC K C nw tl := by
  unfold oxB at h
  simp only [Bool.and_eq_true, decide_eq_true_eq] at h
  obtain ⟨h1, h2, h3, h4, h5⟩ := h
  refine ⟨?_, h2, h3, h4, h5⟩
  split at h1
  · rename_i o e
    obtain ⟨nm, q, N, bs, bm, sn, sub, ab, col, dd, k0, k1, k2, k3, k5, rfl, hr⟩ := oxB1_ok h1
    exact ⟨nm, q, N, bs, bm, sn, sub, ab, col, dd, k0, k1, k2, k3, k5, e, hr⟩
  · cases h1
end Pg

namespace Pg
open PySem PySem.Spec PyProof.Rows L2
section
variable {X : Cx} {pins : List (Addr × Obj)} {σ : L2.St} {H : Hp} {s : Shared} {a C : Addr} {f : Str} {y : V} {u : Value} {E : Value → Shared → Prop} {A : Around} {B nw ini : String} {tl : List Value}
/-- the first field -/
theorem x_new {Q : Unit → Shared → Prop} (T : OxC X.K C nw tl) (Z : Tl tl) (I : Inv X pins σ H s) (e : H a = some (exo a C none)) (hno : PySem.W.findIn X.K (.ref C) f = some none) (ry : RelV y u)
    (h : ∀ dx s', H dx = none → dx ≠ a → Inv X pins σ (upd (upd H dx (exd dx [(f, y)])) a (exo a C (some dx))) s' → Q () s') : wpAny (model X.prog X.w) A (setAttr (.ref a) f u) Q E s := by
  obtain ⟨nm, q, N, bs, bm, sn, sub, ab, col, dd, k0, k1, k2, k3, k5, hC, hb⟩ := T.cls
  have hcl : PySem.W.clsIn X.K C = some { name := nm, bases := bs, mro := .ref C :: bm, ns := N, qualname := q, hasDict := true, slotNames := sn, subclasses := sub, abstract := ab, collection := col, hasDel := false } := by
    unfold PySem.W.clsIn
    rw [hC] <;> rfl
  obtain ⟨t1, ho⟩ := exo_at I.hok e
  obtain ⟨hp, g, d, t, os⟩ := s
  refine PySem.W.set_plain I.kIn (ox := { cls := .ref C, dict := none, data := .fields #[.ref t1, .none, .none, .none, .bool false, .none] }) (od := none) ⟨ho, rfl, rfl, trivial⟩ T.sa ?_
  refine osa_first Z I.kIn ho hcl (.ref hb) rfl hno fun h' tk' dx k dn dne hx hn => ?_
  have free : H dx = none := I.hok.fresh dn
  have nd : ∀ {b : Addr} {o : Obj}, hp.get? b = some o → b ≠ dx := by
    intro b o q
    exact Nat.ne_of_lt (Nat.lt_of_lt_of_le (Heap.lt_size q) dn)
  have na : ∀ {b : Addr}, H b = none → b ≠ a := by
    intro b n z
    rw [z, e] at n
    cases n
  have un : Un X.fs [] H (upd (upd H dx (exd dx [(f, y)])) a (exo a C (some dx))) hp h' := by
    refine ⟨fun b o q n _ _ => k b o (na n) q, fun b o q n _ _ => ⟨o.slots, k b o (na n) q⟩, fun b o q n _ => ?_, fun b o q _ => ?_, fun b xs q => ?_, fun b o v q => ?_, fun b ps q => ⟨#[], ?_⟩⟩
    · rw [upd_ne (na n), upd_ne (nd q)]; exact n
    · by_cases hb : b = a
      · exact ⟨_, hb ▸ hx⟩
      · exact ⟨o, k b o hb q⟩
    · rw [upd_ne (at_ne e q exo_tup), upd_ne (ne_of_none q free)]; exact q
    · rw [upd_ne (at_ne e q exo_frz), upd_ne (ne_of_none q free)]; exact q
    · rw [upd_ne (at_ne e q exo_tbl), upd_ne (ne_of_none q free), q]; simp
  refine h dx _ free dne (I.un (t' := tk') un fun b o q => ?_)
  by_cases hb : b = a
  · subst hb
    rw [upd_same] at q
    cases q
    exact exo_ok hx
  rw [upd_ne hb] at q
  by_cases hd : b = dx
  · subst hd
    rw [upd_same] at q
    cases q
    exact exd_ok hn (relO_put (fs := []) ry fun g => True.intro)
  rw [upd_ne hd] at q
  refine (I.hok b o q).stay (fun c v hc z => k c v ?_ z) (fun c hc => ?_) fun c xs hc => ?_
  · rcases hc with hc | hc
    · exact hc ▸ hb
    · exact at_ne e hc exo_own
  · rw [upd_ne (at_ne e hc exo_own), upd_ne (ne_of_none hc free)]; exact hc
  · rw [upd_ne (at_ne e hc exo_tup), upd_ne (ne_of_none hc free)]; exact hc
/-- the base's own start -/
theorem x_init {us : List Value} {Q : Value → Shared → Prop} (F : ExcBaseFacts B nw ini tl) (T : OxC X.K C nw tl) (I : Inv X pins σ H s) (e : H a = some (exo a C none)) (hl : us.length ≤ sizeLine) (h : ∀ s', Inv X pins σ H s' → Q .none s') :
    wpAny (model X.prog X.w) A (call (.builtin ini) (.ref a :: us)) Q E s := by
  obtain ⟨nm, q, N, bs, bm, sn, sub, ab, col, dd, k0, k1, k2, k3, k5, hC, hb⟩ := T.cls
  obtain ⟨t1, ho⟩ := exo_at I.hok e
  obtain ⟨hp, g, d, t, os⟩ := s
  refine wpAny_call (PySem.HandSPX.init_base F (fun Y => hb.cont Y) (I.kIn _ _ hC) ho hl fun h' t2 k hx => ?_)
  have J := I.write (t' := t) (x := a) (e := a) (o := exo a C none) (by rw [e]; exact True.intro) (.inl rfl) k ⟨_, hx⟩ (exo_ok hx)
  have same : upd H a (exo a C none) = H := by
    funext b
    by_cases hb : b = a
    · rw [hb, upd_same, e]
    · exact upd_ne hb
  exact h _ (same ▸ J)
end
/-- Base.__init__(self, ..) -/
def tBi (K : PySem.W.Frag) (nw : String) (tl : List Value) (ta : TA) : TE := fun σ H Q => ta σ H fun vs H1 => ∃ (a C : Addr) (ws : List V), vs = .ref a :: ws ∧ ws.length ≤ 1000 ∧ OxC K C nw tl ∧ H1 a = some (exo a C none) ∧ Q .non H1
/-- self.f = e, the first -/
def tXst (K : PySem.W.Frag) (nw : String) (tl : List Value) (f : Str) (to te : TE) : TS := fun D σ H => te σ H fun y H1 => to σ H1 fun x H2 => ∃ a C : Addr, x = .ref a ∧ OxC K C nw tl ∧ PySem.W.findIn K (.ref C) f = some none ∧
  (H2 a = some (exo a C none) ∧ ∀ dx, H2 dx = none → dx ≠ a → D.nx σ (upd (upd H2 dx (exd dx [(f, y)])) a (exo a C (some dx))))
section
variable {X : Cx} {o e : Expr} {es : List Expr} {to te : TE} {ta : TA} {f : Str} {p p' p1 p2 pos : Pos} {B nw ini : String} {tl : List Value}
theorem bi_run (F : ExcBaseFacts B nw ini tl) (ha : PA X (e :: es) ta) {pins : List (Addr × Obj)} {σ : L2.St} {H : Hp} {s : Shared} {Q : VK} (I : Inv X pins σ H s) (h : tBi X.K nw tl ta σ H Q)
    (he : starEach (e :: es) X.env = (false, eval e X.env) :: starEach es X.env := by rfl) (hpl : (backTo pos (starEach es X.env)).any (·.1) = false := by rfl) :
    wpAny (model X.prog X.w) X.A (callWith pos (Value.builtin ini) [] (backTo pos (starEach (e :: es) X.env)) []) (EP X pins σ Q) X.xe { s with toks := s.toks + 1 } := by
  refine PyProof.Rows.callWith_method1 (thn (ha.run pos pins _ σ H _ (I.tok _) h) fun us s1 ⟨vs, H1, I1, r1, a, C, ws, ev, hl, T, ea, q⟩ => ?_) he hpl
  subst ev
  cases r1 with
  | @cons _ u0 _ ur ra rr =>
    obtain rfl : u0 = Value.ref a := ra
    have hlen : ur.length ≤ sizeLine := by
      rw [← Paired.length rr, sizeLine_eq]
      omega
    exact x_init F T I1 ea hlen fun s' J => ⟨.non, H1, J, rfl, q⟩
theorem pe_bi {x : Str} (F : ExcBaseFacts B nw ini tl) (hg : Gl X x) (hm : X.mg x = none) (hb : bootBuiltins x = some (.type B)) (ht : typeOf (.type B) = pure (.type "type")) (hs : Manifest.isStub B = false)
    (vV : PySem.W.findCls X.K (.type B) (.type "type") "__init__" = some (.val (.builtin ini))) (hi : PySem.W.handedIn (.builtin ini) = true) (ha : PA X (e :: es) ta) (hn : x ≠ "__name__" := by decide) (hd : (x == ("__debug__" : Str)) = false := by decide)
    (hc : ∃ pl : Sem Bool, eval (.Call (.Attribute (.Name x p1) "__init__" p2) (e :: es) [] pos) X.env = (do
      let ov ← eval (.Name x p1) X.env
      standAt p2.atName
      let (f, first) ← holding [ov] (getMethod ov "__init__" pl)
      callWith pos f first (backTo pos (starEach (e :: es) X.env)) (backToKw pos (keywordEach [] X.env))) := by exact ⟨_, rfl⟩)
    (he : starEach (e :: es) X.env = (false, eval e X.env) :: starEach es X.env := by rfl) (hpl : (backTo pos (starEach es X.env)).any (·.1) = false := by rfl) :
    PE X (.Call (.Attribute (.Name x p1) "__init__" p2) (e :: es) [] pos) (tBi X.K nw tl ta) := by
  constructor
  intro pins s σ H Q I h
  obtain ⟨pl, hc⟩ := hc
  refine PySem.W.methodCall_KW (ld_blt I hg hm hb ?_ hn hd) hc
  obtain ⟨m, fr⟩ := I.fr
  refine PySem.W.method_type fr I.ok.mod.kin ht hs vV hi ?_
  exact bi_run F ha I h he hpl
/-- .. of a base of the program -/
theorem pe_bo {x : Str} {G : Addr} (F : ExcBaseFacts B nw ini tl) (hg : Gl X x) (hm : X.mg x = some (.ref G)) (hga : PySem.W.specialIn X.K (.ref G) "__getattribute__" = some (some (.builtin "type.__getattribute__"))) (hr : PySem.W.readsIn X.K G (.type "type") = true)
    (vV : PySem.W.findCls X.K (.ref G) (.type "type") "__init__" = some (.val (.builtin ini))) (hi : PySem.W.handedIn (.builtin ini) = true) (ha : PA X (e :: es) ta) (hd : (x == ("__debug__" : Str)) = false := by decide)
    (hc : ∃ pl : Sem Bool, eval (.Call (.Attribute (.Name x p1) "__init__" p2) (e :: es) [] pos) X.env = (do
      let ov ← eval (.Name x p1) X.env
      standAt p2.atName
      let (f, first) ← holding [ov] (getMethod ov "__init__" pl)
      callWith pos f first (backTo pos (starEach (e :: es) X.env)) (backToKw pos (keywordEach [] X.env))) := by exact ⟨_, rfl⟩)
    (he : starEach (e :: es) X.env = (false, eval e X.env) :: starEach es X.env := by rfl) (hpl : (backTo pos (starEach es X.env)).any (·.1) = false := by rfl) :
    PE X (.Call (.Attribute (.Name x p1) "__init__" p2) (e :: es) [] pos) (tBi X.K nw tl ta) := by
  constructor
  intro pins s σ H Q I h
  obtain ⟨pl, hc⟩ := hc
  refine PySem.W.methodCall_KW (ld_glob I hg hm ?_ hd) hc
  exact PySem.W.method_cls I.kIn hga (PySem.W.cls_value I.kIn hr vV hi (bi_run F ha I h he hpl))
theorem ps_xst (Z : Tl tl) (ho : PE X o to) (he : PE X e te) (hs : swapsWith e (some (.Attribute o f p')) pos.line X.env = pure false := by rfl) : PS X (.Assign [.Attribute o f p'] e pos) (tXst X.K nw tl f to te) := by
  constructor
  intro pins s σ H D I h
  refine plainObj_wpAny_Assign_Attribute (thn (he.run pins s σ H _ I h) fun v s1 ⟨y, H1, I1, r1, q1⟩ => ?_) hs
  refine thn (ho.run pins s1 σ H1 _ I1 q1) fun u s2 ⟨x, H2, I2, r2, a, C, ex, T, hno, ea, q⟩ => ?_
  subst ex
  obtain rfl : u = Value.ref a := r2
  exact x_new T Z I2 ea hno r1 fun dx s' n ne J => ⟨σ, _, J, q dx n ne⟩
end
/-- what a call of an own error's class wishes; sp: its __init__ -/
def tMx (C : Addr) (sp : Sp) (ta : TA) : L2.St → Hp → XK → Prop := fun σ H Q => ta σ H fun vs H1 => vs.length ≤ 1000 ∧ ∀ a, H1 a = none → sp (.ref a :: vs) (upd H1 a (exo a C none))
  (fun v H2 => v = .non ∧ ∃ (d : Addr) (fs : List (Str × V)), H2 a = some (exo a C (some d)) ∧ H2 d = some (exd d fs) ∧ H1 d = none ∧ Q (.ref C) (some d) (upd (del H2 a) d (.xd fs))) (fun _ _ _ => False)
theorem pmk_x {X : Cx} {CX : CXT} {x : Str} {C fI : Addr} {k : Nat} {fd : FuncData} {ps : List Str} {sp : Sp} {B nw ini : String} {tl : List Value} {e : Expr} {es : List Expr} {ta : TA} {p pos : Pos} (F : ExcBaseFacts B nw ini tl) (T : OxC X.K C nw tl)
    (iC : PySem.W.findIn X.K (.ref C) "__init__" = some (some (.ref fI))) (tI : PySem.W.typeIn X.K (.ref fI) = some (.type "function")) (F1 : FnOk X.prog X.w X.K X.mg X.base CX k fI fd ps sp) (hr : Room (k + 1) X.A) (hb : Binds X.K fd ps [])
    (hx : Passes CX X (fun _ _ _ => False)) (hg : Gl X x) (hm : X.mg x = some (.ref C)) (ha : PA X (e :: es) ta) (hdb : (x == ("__debug__" : Str)) = false := by decide)
    (he : starEach (e :: es) X.env = (false, eval e X.env) :: starEach es X.env := by rfl) (hpl : (backTo pos (starEach es X.env)).any (·.1) = false := by rfl) : PMk X (.Call (.Name x p) (e :: es) [] pos) (tMx C sp ta) := by
  intro pins s σ H Q I h
  obtain ⟨nm, q, N, bs, bm, sn, sub, ab, col, dd, k0, k1, k2, k3, k5, hC, hbm⟩ := T.cls
  refine wpAny_Call_Name_kw (ld_glob I hg hm ?_ hdb)
  refine PySem.W.callWith_K (h₀ := X.base) I.ok.mod.kin T.kp (thn (ha.run pos pins s σ H _ I h) fun us s1 ⟨vs, H1, I1, r1, hz, q1⟩ => ⟨I1.kIn, ?_⟩) he hpl
  show wpAny _ _ (call (.ref C) us) _ _ _
  obtain ⟨hp, g, dr, tk, os⟩ := s1
  generalize ez : hp.objs.size + 1 = z
  have hsz : hp.objs.size ≤ z := by omega
  have hq := q1 z (I1.hok.fresh hsz)
  let h2 := (hp.push (PySem.W.kdv_tup us)).push (PySem.HandSPX.excO C hp.objs.size)
  have kk : ∀ b o, hp.get? b = some o → h2.get? b = some o := fun b o e => Heap.get?_push_of_some _ (Heap.get?_push_of_some _ e)
  have hget : h2.get? z = some (PySem.HandSPX.excO C hp.objs.size) := by
    subst ez
    show ((hp.push (PySem.W.kdv_tup us)).push (PySem.HandSPX.excO C hp.objs.size)).get? (hp.objs.size + 1) = _
    heap_get
  have I2 : Inv X pins σ (upd H1 z (exo z C none)) ⟨h2, g, dr, tk, os⟩ := I1.laid (t' := tk) (a := z) (o := exo z C none) (h' := h2) kk hsz (exo_ok hget)
  have r2 : Vals (V.ref z :: vs) (Value.ref z :: us) := .cons rfl r1
  have hl : (Value.ref z :: us).length = ps.length := by
    rw [← r2.length]
    exact F1.len _ _ _ _ hq
  have hus : us.length ≤ sizeLine := by
    rw [← Paired.length r1, sizeLine_eq]
    omega
  have bnd := hb _ (Value.ref z :: us) I2.kIn (by rw [List.append_nil]; exact hl)
  rw [List.append_nil] at bnd
  subst ez
  refine wpAny_call (PySem.HandSPX.call_own F (fun Y => hbm.cont Y) (I1.kIn _ _ hC) (PySem.W.looks_findIn I1.kIn iC) (fun self => PySem.W.bind_fn I1.kIn self tI) hus ?_)
  refine codeAny_mono (F1.run _ X.stack _ _ ⟨Value.ref (hp.objs.size + 1) :: us, []⟩ _ _ _ (fun _ _ _ => False) (hr.make C us []) (I2.env0.make C us []) bnd r2 hq) fun r s' hq' => ?_
  cases r with
  | error er => exact hx pins σ _ _ er s' I2 hq'
  | ok fl =>
    cases fl with
    | ret u =>
      obtain ⟨v, H2, os2, bare2, un2, hok2, rv, ev, d, fs, ea, ed, hd1, q2⟩ := hq'
      subst ev
      obtain ⟨h2', g2, d2, t2, os'⟩ := s'
      exact ⟨rv, mk_end (raises_own T.ex T.ty) I1 hsz kk un2 hok2 os2 bare2 ea ed hd1 q2⟩
    | next => exact False.elim hq'
    | brk => exact False.elim hq'
    | cont => exact False.elim hq'
end Pg

namespace Pg
open PySem PySem.Spec PyProof.Rows L2 LamX
section
variable {X : Cx} {pins : List (Addr × Obj)} {σ : L2.St} {H : Hp} {s : Shared}
abbrev lamO (X : Cx) (params : Arguments) (body : Expr) (scope : Scope) (pm : Value) (c' : Addr) (ctv : Value) : Obj := PySem.W.kla_obj "<lambda>" (X.env.qual ++ "<lambda>") params body scope (cloFrom X.env.cells scope.names []) pm c' ctv
/-- the context of the def that hears -/
abbrev hearX (X : Cx) (Ng : List Str) (x : Str) (sg : Scope) (g : Addr) (cdg : Value) (s : Shared) (H : Hp) : Cx := cxOf C8.CX0 X.prog X.w X.K X.mg X.base Ng x sg g cdg X.A X.stack s H C8.E0
theorem act_lam {Ng : List Str} {qg : Str} {sg : Scope} {g f c' : Addr} {cdg pm ctv : Value} {params : Arguments} {body : Expr} {scope : Scope} {k i : Nat} {a : Str} {pn : List (Addr × Obj)} {xe : Value → Shared → Prop} {W : WX} {tb : XK → TE} {p1 p2 : Pos} (gd : X.A.guards = some [])
    (I : Inv X pins σ H s) (L : LamS X.env.scope scope) (hf : s.heap.get? f = some (lamO X params body scope pm c' ctv)) (hfn : H f = none) (hfr : f ∉ frs X.stack)
    (hbind : bindArgs (PySem.W.kla_fn "<lambda>" (X.env.qual ++ "<lambda>") params body scope (cloFrom X.env.cells scope.names []) pm (.ref c') ctv) ⟨[], []⟩ = pure []) (tk : Takes ((hearX X Ng qg sg g cdg s H).tr pn xe) W)
    (hr : Room (k + 1) (X.A.deeper (envOfC qg sg s.heap.objs.size g cdg)))
    (run : ∀ (A : Around) (outer : List Env) (s : Shared) (H : Hp) (E : XK), Room k (A.deeper (lamEnv X scope s.heap.objs.size f c')) → A.guards = some [] → PE (lamCx X A outer s H E scope f c') body (tb E))
    (hN : Ng[i]? = some a) (hv : Vis sg a) (hd : (a == ("__debug__" : Str)) = false := by decide) (hcd : (a == ("__classdict__" : Str)) = false := by decide) :
    PE ((hearX X Ng qg sg g cdg s H).tr pn xe) (.Call (.Name a p1) [] [] p2) (fun σZ HZ Q => σZ[i]? = some (some (.ref f)) ∧ HZ c' = some (CodeO c' (X.env.qual ++ "<lambda>")) ∧ tb (fun c d H' => W c d σZ H') σ HZ Q) := by
  constructor
  intro pz sZ σZ HZ Q IZ ⟨hs, hc, ht⟩
  have nm := (pe_var (X := (hearX X Ng qg sg g cdg s H).tr pn xe) (pos := p1) (i := i) hN hv hd hcd).run pz sZ σZ HZ (fun v H1 => v = .ref f ∧ H1 = HZ) IZ ⟨.ref f, hs, rfl, rfl⟩
  refine wpAny_Call_Name_kw (thn nm fun u s1 ⟨v, H1, I1, r1, ev, eH⟩ => ?_)
  subst ev
  rw [eH] at I1
  obtain rfl : u = Value.ref f := r1
  have ofn : s1.heap.get? f = some (lamO X params body scope pm c' ctv) := I1.base.keep f _ hf hfn hfr (fun z => nomatch (show f ∈ ([] : List Addr) from z))
  refine PySem.W.callWith_F0 ⟨_, _, _, _, ofn⟩ ?_
  obtain ⟨⟨oc, vs, t, hoc, hdc, hvc⟩, _, _⟩ := I1.hok c' _ hc
  have rc : codeAny (model X.prog X.w) (X.A.deeper (envOfC qg sg s.heap.objs.size g cdg)) (.call (.ref f) ⟨[], []⟩) (CR (L2.CX X.prog X.w) (envOfC qg sg s.heap.objs.size g cdg :: X.stack) X.prog X.w HZ s1 Q (fun c d H' => W c d σZ H')) s1 := by
    refine PySem.W.kla_callFunE hr.depth ofn rfl L.co L.gen rfl ⟨c', oc, vs, t, rfl, hoc, hdc, hvc⟩ ?_
    rw [hbind]
    refine wpAny_pure (wpAny_newFunctionEnv (fun y hy => (L.own y hy).2) (fun y hy => absurd hy (by simp)) (fun h1 hns hsb => ⟨I1.nolimit.fresh _ hsb, ?_⟩) L.kind)
    show codeAny _ _ (.expr body (lamEnv X scope s1.heap.objs.size f c')) _ _
    have J : Inv (lamCx X (X.A.deeper (envOfC qg sg s.heap.objs.size g cdg)) (envOfC qg sg s.heap.objs.size g cdg :: X.stack) s1 HZ (fun c d H' => W c d σZ H') scope f c') [] σ HZ { s1 with heap := h1, toks := s1.toks + ([] : List (Str × Value)).length } :=
      lam_start2 I L I1.env0 hr.hd (show Un (frs X.stack) [] H HZ s.heap s1.heap from I1.base) hns fun b o e => hsb.extBut b o (Nat.ne_of_lt (Heap.lt_size e)) (Heap.get?_push_of_some _ e)
    refine PySem.W.kla_codeExpr (wpAny_mono ((run _ _ s1 HZ _ (hr.deeper _) gd).run [] _ _ HZ Q J ht) (fun v s' hq => ?_) fun e s' hq => hq)
    obtain ⟨w', H', J', rv, q⟩ := hq
    exact ⟨w', H', J'.os, J'.bare, J'.base, J'.hok, rv, q⟩
  have hx := passAt tk σZ
  refine wpAny_call (codeAny_mono rc fun r s' hq => ?_)
  rcases r with er | fl
  · exact hx pz HZ s1 er s' I1 hq
  cases fl
  case ret u => exact I1.after hq
  all_goals exact False.elim hq
/-- the reading: RD, what is to hold where the lambda f with its code object c' is there -/
def tLm (T : List (Addr × Str)) (q : Str) (RD : Addr → Addr → L2.St → Hp → VK → Prop) : TE := fun σ H Q => Tabs T H ∧ ∀ H1 f c', ExtN H H1 → Tabs T H1 → H1 c' = some (CodeO c' q) → RD f c' σ H1 Q
theorem pe_lm {T : List (Addr × Str)} {x a : Str} {g c P : Addr} {k : Nat} {pg : Arguments} {bg : List Stmt} {sg : Scope} {dV kV doc pm cdv ct oc : Value} {an od : Option Addr} {osl : Array (Option Value)} {Ng : List Str} {params : Arguments} {body : Expr} {scope : Scope} {t : XK → TE} {RD : Addr → Addr → L2.St → Hp → VK → Prop} {p lpos pos : Pos}
    (gd : X.A.guards = some []) (hg : Gl X x) (hm : X.mg x = some (.ref g)) (hk : PySem.W.keepIn X.K (.ref g) = true) (lk : X.K.lookup g = some ⟨oc, od, .func (PySem.W.fnOf x x pg bg sg dV kV doc pm an cdv ct), osl⟩) (hcg : PySem.W.codeIn X.K cdv x = true)
    (hb : L2.Binds X.K (PySem.W.fnOf x x pg bg sg dV kV doc pm an cdv ct) [a] []) (Sg : FnScope Ng [a] sg) (hNg : Ng[0]? = some a) (hva : Vis sg a) (TB : TabB X.base X.mg c P) (hcode : X.env.code = .ref c) (hmT : (P, X.env.qual ++ "<lambda>") ∈ T)
    (hu : ∀ p ∈ T, p.1 = P → p.2 = X.env.qual ++ "<lambda>") (hr : Room (k + 2) X.A) (L : LamS X.env.scope scope) (hdef : defaultsOf params X.env = ([], []))
    (hbind : ∀ (q : Str) (cl : List (Str × Addr)) (pm cv ctv : Value), bindArgs (PySem.W.kla_fn "<lambda>" q params body scope cl pm cv ctv) ⟨[], []⟩ = pure [])
    (run : ∀ (A : Around) (outer : List Env) (s : Shared) (H : Hp) (E : XK) (f c' : Addr), Room k (A.deeper (lamEnv X scope s.heap.objs.size f c')) → A.guards = some [] → PE (lamCx X A outer s H E scope f c') body (t E))
    (hG : ∀ (f c' : Addr) (s : Shared) (σ : L2.St) (H : Hp) (Q : VK), Room (k + 1) (X.A.deeper (envOfC x sg s.heap.objs.size g cdv)) → (∀ (W : WX) (pn : List (Addr × Obj)) (xe : Value → Shared → Prop) (p1 p2 : Pos), Takes ((hearX X Ng x sg g cdv s H).tr pn xe) W →
        PE ((hearX X Ng x sg g cdv s H).tr pn xe) (.Call (.Name a p1) [] [] p2) (fun σZ HZ Q => σZ[0]? = some (some (.ref f)) ∧ HZ c' = some (CodeO c' (X.env.qual ++ "<lambda>")) ∧ t (fun c d H' => W c d σZ H') σ HZ Q)) →
      H c' = some (CodeO c' (X.env.qual ++ "<lambda>")) → RD f c' σ H Q → ∃ t', PSs (hearX X Ng x sg g cdv s H).nox bg t' ∧ t' { nx := fun _ H' => Q .non H', rt := Q } (L2.start Ng [.ref f]) H)
    (hdb : (x == ("__debug__" : Str)) = false := by decide) (hd : (a == ("__debug__" : Str)) = false := by decide) (hcd : (a == ("__classdict__" : Str)) = false := by decide) :
    PE X (.Call (.Name x p) [.Lambda params body scope lpos] [] pos) (tLm T (X.env.qual ++ "<lambda>") RD) := by
  constructor
  intro pins s σ H Q I ⟨hT, h⟩
  refine wpAny_Call_Name_kw (ld_glob I hg hm ?_ hdb)
  refine PySem.W.callWith_K (h₀ := X.base) I.ok.mod.kin hk ?_ (by rfl) (by rfl)
  show wpAny _ _ (spliced ((false, eval (.Lambda params body scope lpos) X.env) :: backTo pos (starEach [] X.env))) _ _ s
  refine Calls.spliced_cons (lam_make2 I TB hcode hmT hu hT hdef (L.has I.ok) fun f c' pm' ctv H1 s' I1 eN T1 hf hfn hfr hco => ?_)
  refine Calls.spliced_nil ⟨I1.kIn, ?_⟩
  have rc : codeAny (model X.prog X.w) X.A (.call (.ref g) ⟨[.ref f], []⟩) (CR C8.CX0 X.stack X.prog X.w H1 s' Q C8.E0) s' := by
    refine run_ofS (N := Ng) (ps := [a]) (us := [.ref f]) (vs := [.ref f]) lk hcg Sg hr I1.env0 (hb s' [.ref f] I1.kIn rfl) (.cons rfl .nil) rfl fun hr' => ?_
    obtain ⟨t', ht', hq'⟩ := hG f c' s' σ H1 Q hr' (fun W pn xe p1 p2 tk => act_lam (i := 0) (tb := t) gd I1 L hf hfn hfr (hbind _ _ _ _ _) tk hr' (fun A outer s H E hr2 g2 => run A outer s H E f c' hr2 g2) hNg hva hd hcd) hco (h H1 f c' eN T1 hco)
    exact ⟨t', ht'.nox, hq'⟩
  refine wpAny_call (codeAny_mono rc fun r s2 hq => ?_)
  rcases r with er | fl
  · exact (show False from hq).elim
  cases fl
  case ret u => exact I1.after hq
  all_goals exact False.elim hq
end
end Pg
/-! Meanings of defs over values alone: what is made is frozen, but for what one name holds alone. -/
namespace Pv
open PySem L2
open Pg (TakesH Top XEA WB)

inductive W where
  | non
  | bl (b : Bool)
  | int (i : Int)
  | str (x : Str)
  | ty (n : String)
  | tup (ws : List W)
  | lst (ws : List W)
  /-- a list that nobody changes, however it is known -/
  | rol (ws : List W)
  | dic (kvs : List (W × W))
  | ins (C : Str) (fs : List (Str × W))
  | set (ws : List W)
  | gl (x : Str)
  | rg (lo hi : Int)
  /-- something of which nothing is known -/
  | jk
deriving Inhabited
/-- what a name holds: a value; a thing that it holds alone; a thing that its caller lent it -/
inductive Ev where
  | v (w : W)
  | o (w : W)
  | b (w : W)
deriving Inhabited
abbrev En := List (Option Ev)
/-- a raised error: its class's name, and the one field that it keeps -/
structure XV where
  cls : Str
  fld : Option (Str × W)
inductive Rs (α : Type) where
  | ok (a : α) (e : En)
  | exc (x : XV) (e : En)
  | bad
def Rs.bind {α β : Type} (r : Rs α) (k : α → En → Rs β) : Rs β := match r with
  | .ok a e => k a e
  | .exc x e => .exc x e
  | .bad => .bad
/-- the end of a statement -/
inductive SR where
  | nx (e : En)
  | ret (w : W) (e : En)
  /-- what is handed back is a thing that nobody else has -/
  | own (w : W) (e : En)
  | brk (e : En)
  | cnt (e : En)
  | exc (x : XV) (e : En)
  | bad
def Rs.thn {α : Type} (r : Rs α) (k : α → En → SR) : SR := match r with
  | .ok a e => k a e
  | .exc x e => .exc x e
  | .bad => .bad
abbrev FE := En → Rs W
abbrev FT := En → Rs Bool
abbrev FA := En → Rs (List W)
abbrev FS := En → SR
/-- a def's answer -/
inductive Rf where
  | ok (w : W)
  | exc (x : XV)
  | bad
abbrev Fn := List W → Rf

/-- where a def's body stands -/
structure Wo where
  P : Program
  w : World
  K : PySem.W.Frag
  mg : Str → Option Value
  base : Heap
  /-- the defs' tables of code objects -/
  T : List (Addr × Str) := []
structure Ctx where
  g : Wo
  N : List Str
  sc : Scope
  lv : Nat
  fa : Bool
  /-- the def's code object, its table, its name: where lambdas are made -/
  cq : Option (Addr × Addr × Str) := none
  /-- a block's own names that are kept in cells -/
  ow : Str → Bool := fun _ => false
structure Ctx.Ok (S : Ctx) (W : WX) (X : Cx) : Prop where
  P : X.prog = S.g.P
  w : X.w = S.g.w
  K : X.K = S.g.K
  mg : X.mg = S.g.mg
  base : X.base = S.g.base
  N : X.N = S.N
  nodup : X.N.Nodup
  sc : X.env.scope = S.sc
  calm : X.calm = true
  room : Room S.lv X.A
  gd : X.A.guards = some []
  fa : S.fa = true → ∀ x, X.fn x = true
  lam : ∀ c P q, S.cq = some (c, P, q) → X.env.code = .ref c ∧ X.env.qual = q ∧ LamX.TabB X.base X.mg c P
  stk : S.fa = true → X.stack = X.env :: X.outer ∧ X.env.frame = some X.env.locals
  tk : Takes X W
  po : S.fa = true → PassesOwn (model X.prog X.w) X.A X.env X.xe
  ow : ∀ x, S.ow x = true → X.fn x = true
  th : TakesH X W
  top : ∃ e0 o0 L, Top X e0 o0 L

/-- what stands in the one stands in the other -/
def Le (F H : Hp) : Prop := ∀ a o, F a = some o → H a = some o
theorem Le.refl (H : Hp) : Le H H := fun _ _ h => h
theorem Le.trans {F G H : Hp} (a : Le F G) (b : Le G H) : Le F H := fun x o h => b x o (a x o h)
theorem Le.up {F H : Hp} {p : Addr} {o : HO} (h : F p = none) (l : Le F H) : Le F (upd H p o) := fun a u e => by
  rw [upd_ne (ne_of_none e h)]; exact l a u e
theorem Le.up2 {F H : Hp} {p : Addr} {o : HO} (l : Le F H) : Le (L2.upd F p o) (L2.upd H p o) := fun a u e => by
  by_cases h : a = p
  · subst h; rw [upd_same] at e ⊢; exact e
  · rw [upd_ne h] at e ⊢; exact l a u e
theorem Le.new {F : Hp} {p : Addr} {o : HO} (h : F p = none) : Le F (L2.upd F p o) := Le.up h (.refl F)
/-- two that have nothing in common -/
def Dj (B F : Hp) : Prop := ∀ a o, B a = some o → F a = none
theorem Dj.nn {B F : Hp} (d : Dj B F) {a : Addr} {o : HO} (h : F a = some o) : B a = none := by
  cases e : B a with
  | none => rfl
  | some u => rw [d a u e] at h; cases h
theorem Dj.up {B F : Hp} {p : Addr} {o : HO} (d : Dj B F) (h : B p = none) : Dj B (upd F p o) := fun a u e => by
  rw [upd_ne (ne_of_none e h)]; exact d a u e
theorem Dj.up1 {B F : Hp} {p : Addr} {o : HO} (d : Dj B F) (h : F p = none) : Dj (L2.upd B p o) F := fun a u e => by
  by_cases q : a = p
  · subst q; exact h
  · rw [upd_ne q] at e; exact d a u e
theorem none_le {F H : Hp} (l : Le F H) {a : Addr} (h : H a = none) : F a = none := by
  cases e : F a with
  | none => rfl
  | some o => rw [l a o e] at h; cases h

/-- a key as a value -/
def kW : Key → W
  | .inl i => .int i
  | .inr x => .str x
def tW (ks : List Key) : W := .tup (ks.map kW)
section
variable (S : Wo) (F : Hp)
mutual
inductive Rv : W → V → Prop
  | non : Rv .non .non
  | bl (b : Bool) : Rv (.bl b) (.bl b)
  | int (i : Int) : Rv (.int i) (.int i)
  | str (x : Str) : Rv (.str x) (.str x)
  | ty (n : String) : Rv (.ty n) (.ty n)
  | tup {ws : List W} {a : Addr} {vs : List V} (h : F a = some (.tup vs)) (r : Rvs ws vs) : Rv (.tup ws) (.ref a)
  | lst {ws : List W} {a : Addr} {vs : List V} (h : F a = some (.lst vs)) (r : Rvs ws vs) : Rv (.lst ws) (.ref a)
  | rol {ws : List W} {a : Addr} {vs : List V} (h : SqL S.K F a vs) (r : Rvs ws vs) : Rv (.rol ws) (.ref a)
  | dK {kvs : List (W × W)} {a : Addr} {o : Obj} {hk : List (Key × V)} (h : F a = some (.frz o (.dK hk))) (e : kvs.map (·.1) = hk.map fun p => kW p.1) (r : Rvs (kvs.map (·.2)) (hk.map (·.2))) : Rv (.dic kvs) (.ref a)
  | dT {kvs : List (W × W)} {a : Addr} {o : Obj} {hk : List (List Key × V)} (ne : kvs ≠ []) (h : F a = some (.frz o (.dT hk))) (e : kvs.map (·.1) = hk.map fun p => tW p.1) (r : Rvs (kvs.map (·.2)) (hk.map (·.2))) : Rv (.dic kvs) (.ref a)
  | ins {C : Str} {fs : List (Str × W)} {a c dx : Addr} {hk : List (Str × V)} (hm : S.mg C = some (.ref c)) (h : F a = some (.ins c dx hk)) (e : fs.map (·.1) = hk.map (·.1)) (r : Rvs (fs.map (·.2)) (hk.map (·.2))) : Rv (.ins C fs) (.ref a)
  | gl {x : Str} {a : Addr} (h : S.mg x = some (.ref a)) : Rv (.gl x) (.ref a)
  | rg {a : Addr} {lo hi : Int} (h : F a = some (.rng lo hi)) : Rv (.rg lo hi) (.ref a)
  | jk (v : V) : Rv .jk v
inductive Rvs : List W → List V → Prop
  | nil : Rvs [] []
  | cons {w : W} {v : V} {ws : List W} {vs : List V} (h : Rv w v) (r : Rvs ws vs) : Rvs (w :: ws) (v :: vs)
end
/-- what a thing that can change is seen as -/
inductive Rc : W → HO → Prop
  | lst {ws : List W} {vs : List V} (r : Rvs S F ws vs) (hl : ws.length ≤ sizeLine) : Rc (.lst ws) (.lst vs)
  | dK {kvs : List (W × W)} {hk : List (Key × V)} (e : kvs.map (·.1) = hk.map fun p => kW p.1) (r : Rvs S F (kvs.map (·.2)) (hk.map (·.2))) : Rc (.dic kvs) (.dK hk)
  | dT {kvs : List (W × W)} {hk : List (List Key × V)} (ne : kvs ≠ []) (e : kvs.map (·.1) = hk.map fun p => tW p.1) (r : Rvs S F (kvs.map (·.2)) (hk.map (·.2))) : Rc (.dic kvs) (.dT hk)
  | ins {C : Str} {fs : List (Str × W)} {c dx : Addr} {hk : List (Str × V)} (hm : S.mg C = some (.ref c)) (e : fs.map (·.1) = hk.map (·.1)) (r : Rvs S F (fs.map (·.2)) (hk.map (·.2))) : Rc (.ins C fs) (.ins c dx hk)
end
section
variable {S : Wo} {F F' : Hp}
theorem SqL.le {K : PySem.W.Frag} {a : Addr} {vs : List V} (l : Le F F') (h : SqL K F a vs) : SqL K F' a vs := by
  rcases h with (h | ⟨o, h⟩) | h
  · exact .inl (.inl (l _ _ h))
  · exact .inl (.inr ⟨o, l _ _ h⟩)
  · exact .inr h
mutual
theorem Rv.le (l : Le F F') : ∀ {w : W} {v : V}, Rv S F w v → Rv S F' w v
  | _, _, .non => .non
  | _, _, .bl b => .bl b
  | _, _, .int i => .int i
  | _, _, .str x => .str x
  | _, _, .ty n => .ty n
  | _, _, .tup h q => .tup (l _ _ h) (Rvs.le l q)
  | _, _, .lst h q => .lst (l _ _ h) (Rvs.le l q)
  | _, _, .rol h q => .rol (SqL.le l h) (Rvs.le l q)
  | _, _, .dK h e q => .dK (l _ _ h) e (Rvs.le l q)
  | _, _, .dT n h e q => .dT n (l _ _ h) e (Rvs.le l q)
  | _, _, .ins m h e q => .ins m (l _ _ h) e (Rvs.le l q)
  | _, _, .gl h => .gl h
  | _, _, .rg h => .rg (l _ _ h)
  | _, _, .jk v => .jk v
theorem Rvs.le (l : Le F F') : ∀ {ws : List W} {vs : List V}, Rvs S F ws vs → Rvs S F' ws vs
  | _, _, .nil => .nil
  | _, _, .cons h q => .cons (Rv.le l h) (Rvs.le l q)
end
theorem Rc.le (l : Le F F') {w : W} {o : HO} : Rc S F w o → Rc S F' w o
  | .lst r hl => .lst (r.le l) hl
  | .dK e r => .dK e (r.le l)
  | .dT n e r => .dT n e (r.le l)
  | .ins m e r => .ins m e (r.le l)
end
theorem Rvs.length {S : Wo} {F : Hp} : ∀ {ws : List W} {vs : List V}, Rvs S F ws vs → vs.length = ws.length
  | _, _, .nil => rfl
  | _, _, .cons _ r => by simp [Rvs.length r]
theorem Rvs.get {S : Wo} {F : Hp} : ∀ {ws : List W} {vs : List V} {i : Nat} {w : W}, Rvs S F ws vs → ws[i]? = some w → ∃ v, vs[i]? = some v ∧ Rv S F w v
  | _, _, _, _, .nil, e => by simp at e
  | _, _, 0, _, .cons h r, e => by simp at e; subst e; exact ⟨_, rfl, h⟩
  | _, _, i + 1, w, .cons h r, e => by simpa using Rvs.get (i := i) r (by simpa using e)
theorem Rvs.append {S : Wo} {F : Hp} : ∀ {ws us : List W} {vs xs : List V}, Rvs S F ws vs → Rvs S F us xs → Rvs S F (ws ++ us) (vs ++ xs)
  | _, _, _, _, .nil, q => q
  | _, _, _, _, .cons h r, q => .cons h (Rvs.append r q)
theorem Rvs.set {S : Wo} {F : Hp} {w : W} {v : V} (q : Rv S F w v) : ∀ {ws : List W} {vs : List V} (i : Nat), Rvs S F ws vs → Rvs S F (ws.set i w) (vs.set i v)
  | _, _, _, .nil => .nil
  | _, _, 0, .cons _ r => .cons q r
  | _, _, i + 1, .cons h r => .cons h (Rvs.set q i r)
theorem Rvs.take {S : Wo} {F : Hp} : ∀ {ws : List W} {vs : List V} (n : Nat), Rvs S F ws vs → Rvs S F (ws.take n) (vs.take n)
  | _, _, 0, _ => .nil
  | _, _, _ + 1, .nil => .nil
  | _, _, n + 1, .cons h r => .cons h (Rvs.take n r)
theorem Rvs.drop {S : Wo} {F : Hp} : ∀ {ws : List W} {vs : List V} (n : Nat), Rvs S F ws vs → Rvs S F (ws.drop n) (vs.drop n)
  | _, _, 0, r => r
  | _, _, _ + 1, .nil => .nil
  | _, _, n + 1, .cons _ r => Rvs.drop n r

/-- what can change -/
inductive Mu : HO → Prop
  | lst (xs : List V) : Mu (.lst xs)
  | dK (xs : List (Key × V)) : Mu (.dK xs)
  | dT (xs : List (List Key × V)) : Mu (.dT xs)
  | ins (c d : Addr) (xs : List (Str × V)) : Mu (.ins c d xs)
theorem Rc.mu {S : Wo} {F : Hp} {w : W} {o : HO} : Rc S F w o → Mu o
  | .lst _ _ => .lst _
  | .dK _ _ => .dK _
  | .dT _ _ _ => .dT _
  | .ins _ _ _ => .ins _ _ _
/-- what is fixed while a def runs: what its callers have alone, and where lent things lie -/
structure Fx where
  B : Hp
  ba : Nat → Addr

/-- the thing in a name's slot that is no shared value -/
def Ev.alone : Ev → Option W
  | .v _ => none
  | .o w => some w
  | .b w => some w
/-- the state as the meaning sees it -/
structure At (S : Ctx) (B : Fx) (env : En) (F : Hp) (σ : L2.St) (H : Hp) : Prop where
  le : Le F H
  fr : Le B.B H
  dj : Dj B.B F
  len : env.length = σ.length
  val : ∀ (i : Nat) (w : W), env[i]? = some (some (Ev.v w)) → ∃ v, σ[i]? = some (some v) ∧ Rv S.g F w v
  own : ∀ (i : Nat) (e : Ev) (w : W), env[i]? = some (some (e : Ev)) → e.alone = some w → ∃ a o, σ[i]? = some (some (V.ref a)) ∧ F a = none ∧ B.B a = none ∧ H a = some o ∧ Rc S.g F w o
  lent : ∀ (i : Nat) (w : W), env[i]? = some (some (Ev.b w)) → σ[i]? = some (some (V.ref (B.ba i)))
  dis : ∀ (i j : Nat) (e e' : Ev) (w w' : W) (a : Addr), env[i]? = some (some (e : Ev)) → e.alone = some w → env[j]? = some (some (e' : Ev)) → e'.alone = some w' → σ[i]? = some (some (V.ref a)) → σ[j]? = some (some (.ref a)) → i = j
  tb : LamX.Tabs S.g.T H
  bm : ∀ (a : Addr) (o : HO), B.B a = some o → Mu o
  nt : ∀ (a : Addr) (ps : Array Value), F a ≠ some (.tbl ps)
/-- a is in no slot alone -/
def Free (env : En) (σ : L2.St) (a : Addr) : Prop := ∀ (i : Nat) (e : Ev) (w : W), env[i]? = some (some (e : Ev)) → e.alone = some w → σ[i]? ≠ some (some (V.ref a))

theorem tabs_kp {T : List (Addr × Str)} {H H' : Hp} (t : LamX.Tabs T H) (k : ∀ b o, H b = some o → (∀ xs, o ≠ .lst xs) → (∀ xs, o ≠ .dK xs) → (∀ xs, o ≠ .dT xs) → (∀ c d xs, o ≠ .ins c d xs) → H' b = some o) : LamX.Tabs T H' := fun p hp => by
  obtain ⟨ps, h1, h2, h3⟩ := t p hp
  refine ⟨ps, k _ _ h1 (fun _ z => by cases z) (fun _ z => by cases z) (fun _ z => by cases z) (fun _ _ _ z => by cases z), h2, fun pos cv hc => ?_⟩
  obtain ⟨c, e1, e2⟩ := h3 pos cv hc
  exact ⟨c, e1, k _ _ e2 (fun _ z => by cases z) (fun _ z => by cases z) (fun _ z => by cases z) (fun _ _ _ z => by cases z)⟩
theorem tabs_new {T : List (Addr × Str)} {H : Hp} {p : Addr} {o : HO} (t : LamX.Tabs T H) (hp : H p = none) : LamX.Tabs T (upd H p o) := tabs_kp t fun b u h _ _ _ _ => by rw [upd_ne (ne_of_none h hp)]; exact h
theorem tabs_mu {T : List (Addr × Str)} {H : Hp} {p : Addr} {o u : HO} (t : LamX.Tabs T H) (hp : H p = some u) (m : Mu u) : LamX.Tabs T (upd H p o) := tabs_kp t fun b v h h1 h2 h3 h4 => by
  by_cases e : b = p
  · subst e
    rw [h] at hp
    cases hp
    cases m with
    | lst xs => exact absurd rfl (h1 xs)
    | dK xs => exact absurd rfl (h2 xs)
    | dT xs => exact absurd rfl (h3 xs)
    | ins c d xs => exact absurd rfl (h4 c d xs)
  · rw [upd_ne e]; exact h
section
variable {S : Ctx} {B : Fx} {env : En} {F F' : Hp} {σ : L2.St} {H H' : Hp}
/-- a later state with the same names -/
theorem At.mv (a : At S B env F σ H) (l : Le F F') (lH : Le F' H') (fr : Le B.B H') (dj : Dj B.B F') (ow : ∀ (i : Nat) (e : Ev) (w : W) (p : Addr), env[i]? = some (some (e : Ev)) → e.alone = some w → σ[i]? = some (some (V.ref p)) → F' p = none ∧ H' p = H p) (tb : LamX.Tabs S.g.T H') (nt : ∀ (a : Addr) (ps : Array Value), F' a ≠ some (.tbl ps)) : At S B env F' σ H' := by
  refine ⟨lH, fr, dj, a.len, fun i w e => ?_, fun i e w h1 h2 => ?_, a.lent, a.dis, tb, a.bm, nt⟩
  · obtain ⟨v, h1, h2⟩ := a.val i w e
    exact ⟨v, h1, h2.le l⟩
  · obtain ⟨p, o, e1, e2, e3, e4, e5⟩ := a.own i e w h1 h2
    obtain ⟨z1, z2⟩ := ow i e w p h1 h2 e1
    exact ⟨p, o, e1, z1, e3, by rw [z2]; exact e4, e5.le l⟩
theorem At.ne_own (a : At S B env F σ H) {p : Addr} (hp : H p = none) : Free env σ p := fun i e w h1 h2 h3 => by
  obtain ⟨q, o, e1, e2, e3, e4, e5⟩ := a.own i e w h1 h2
  rw [e1] at h3
  cases h3
  rw [hp] at e4
  cases e4
/-- a new thing that nobody changes -/
theorem nt_upd {F : Hp} {p : Addr} {o : HO} (nt : ∀ (a : Addr) (ps : Array Value), F a ≠ some (.tbl ps)) (ho : ∀ ps, o ≠ .tbl ps) : ∀ (a : Addr) (ps : Array Value), upd F p o a ≠ some (.tbl ps) := fun a ps h => by
  by_cases q : a = p
  · subst q; rw [upd_same] at h; exact ho ps (Option.some.inj h)
  · rw [upd_ne q] at h; exact nt a ps h
theorem At.new (a : At S B env F σ H) {p : Addr} (hp : H p = none) (o : HO) (ho : ∀ ps, o ≠ .tbl ps := by intro _ h; cases h) : At S B env (upd F p o) σ (upd H p o) := by
  refine a.mv (Le.new (none_le a.le hp)) a.le.up2 (a.fr.up (none_le a.fr hp)) (a.dj.up (none_le a.fr hp)) (fun i e w q h1 h2 h3 => ?_) (tabs_new a.tb hp) (nt_upd a.nt ho)
  have ne : q ≠ p := fun z => a.ne_own hp i e w h1 h2 (by rw [h3, z])
  obtain ⟨p', o', e1, e2, e3, e4, e5⟩ := a.own i e w h1 h2
  rw [e1] at h3
  cases h3
  exact ⟨by rw [upd_ne ne]; exact e2, upd_ne ne⟩
/-- a new thing that can change: not yet of the frozen ones -/
theorem At.newO (a : At S B env F σ H) {p : Addr} (hp : H p = none) (o : HO) : At S B env F σ (upd H p o) := by
  refine a.mv (.refl F) (a.le.up (none_le a.le hp)) (a.fr.up (none_le a.fr hp)) a.dj (fun i e w q h1 h2 h3 => ?_) (tabs_new a.tb hp) a.nt
  have ne : q ≠ p := fun z => a.ne_own hp i e w h1 h2 (by rw [h3, z])
  obtain ⟨p', o', e1, e2, e3, e4, e5⟩ := a.own i e w h1 h2
  rw [e1] at h3
  cases h3
  exact ⟨e2, upd_ne ne⟩
/-- a thing that only one holds is frozen, as u -/
theorem At.frz (a : At S B env F σ H) {p : Addr} {o u : HO} (hF : F p = none) (hB : B.B p = none) (fr : Free env σ p) (e : H p = some o) (mu : Mu o) (hu : ∀ ps, u ≠ .tbl ps := by intro _ h; cases h) : At S B env (upd F p u) σ (upd H p u) := by
  refine a.mv (Le.new hF) a.le.up2 (a.fr.up hB) (a.dj.up hB) (fun i ev w q h1 h2 h3 => ?_) (tabs_mu a.tb e mu) (nt_upd a.nt hu)
  have ne : q ≠ p := fun z => fr i ev w h1 h2 (by rw [h3, z])
  obtain ⟨p', o', e1, e2, e3, e4, e5⟩ := a.own i ev w h1 h2
  rw [e1] at h3
  cases h3
  exact ⟨by rw [upd_ne ne]; exact e2, upd_ne ne⟩
theorem At.frz0 (a : At S B env F σ H) {p : Addr} {o : HO} (hF : F p = none) (hB : B.B p = none) (fr : Free env σ p) (e : H p = some o) (ho : ∀ ps, o ≠ .tbl ps := by intro _ h; cases h) : At S B env (upd F p o) σ H := by
  refine a.mv (Le.new hF) (fun b u h => ?_) a.fr (a.dj.up hB) (fun i ev w q h1 h2 h3 => ?_) a.tb (nt_upd a.nt ho)
  · by_cases q : b = p
    · subst q; rw [upd_same] at h; cases h; exact e
    · rw [upd_ne q] at h; exact a.le b u h
  · have ne : q ≠ p := fun z => fr i ev w h1 h2 (by rw [h3, z])
    obtain ⟨p', o', e1, e2, e3, e4, e5⟩ := a.own i ev w h1 h2
    rw [e1] at h3
    cases h3
    exact ⟨by rw [upd_ne ne]; exact e2, rfl⟩
/-- a thing is laid aside: to the callers' -/
theorem At.push (a : At S B env F σ H) {p : Addr} {o : HO} (mu : Mu o) (hF : F p = none) (fr : Free env σ p) (e : H p = some o) : At S { B with B := upd B.B p o } env F σ H := by
  refine ⟨a.le, fun b u h => ?_, a.dj.up1 hF, a.len, a.val, fun i ev w h1 h2 => ?_, a.lent, a.dis, a.tb, fun b u h => ?_, a.nt⟩
  · have h : upd B.B p o b = some u := h
    by_cases q : b = p
    · subst q; rw [upd_same] at h; cases h; exact e
    · rw [upd_ne q] at h; exact a.fr b u h
  · obtain ⟨q, o', e1, e2, e3, e4, e5⟩ := a.own i ev w h1 h2
    refine ⟨q, o', e1, e2, ?_, e4, e5⟩
    show upd B.B p o q = none
    rw [upd_ne fun z => fr i ev w h1 h2 (by rw [e1, z])]
    exact e3
  · have h : upd B.B p o b = some u := h
    by_cases q : b = p
    · subst q; rw [upd_same] at h; cases h; exact mu
    · rw [upd_ne q] at h; exact a.bm b u h
theorem At.pop {p : Addr} {o : HO} (a : At S { B with B := upd B.B p o } env F σ H) (hB : B.B p = none) : At S B env F σ H ∧ F p = none ∧ H p = some o ∧ Free env σ p := by
  refine ⟨⟨a.le, fun b u h => a.fr b u ?_, fun b u h => a.dj b u ?_, a.len, a.val, fun i ev w h1 h2 => ?_, a.lent, a.dis, a.tb, fun b u h => a.bm b u ?_, a.nt⟩, a.dj p o upd_same, a.fr p o upd_same, fun i ev w h1 h2 h3 => ?_⟩
  · show upd B.B p o b = some u
    rw [upd_ne (ne_of_none h hB)]; exact h
  · show upd B.B p o b = some u
    rw [upd_ne (ne_of_none h hB)]; exact h
  · obtain ⟨q, o', e1, e2, e3, e4, e5⟩ := a.own i ev w h1 h2
    refine ⟨q, o', e1, e2, ?_, e4, e5⟩
    have e3 : upd B.B p o q = none := e3
    by_cases z : q = p
    · subst z; rw [upd_same] at e3; cases e3
    · rw [upd_ne z] at e3; exact e3
  · show upd B.B p o b = some u
    rw [upd_ne (ne_of_none h hB)]; exact h
  · obtain ⟨q, o', e1, e2, e3, e4, e5⟩ := a.own i ev w h1 h2
    rw [e1] at h3
    cases h3
    have e3 : upd B.B p o p = none := e3
    rw [upd_same] at e3
    cases e3
/-- a name is stored: a value -/
theorem At.set (a : At S B env F σ H) {w : W} {v : V} (r : Rv S.g F w v) (i : Nat) : At S B (env.set i (some (.v w))) F (σ.set i (some v)) H := by
  refine ⟨a.le, a.fr, a.dj, by simp [a.len], fun j x h => ?_, fun j ev x h h2 => ?_, fun j x h => ?_, fun j k e e' x x' p h1 h2 h3 h4 h5 h6 => ?_, a.tb, a.bm, a.nt⟩
  · by_cases e : i = j
    · subst e
      by_cases hl : i < env.length
      · rw [List.getElem?_set_self hl] at h
        cases h
        exact ⟨v, by rw [List.getElem?_set_self (by rw [← a.len]; exact hl)], r⟩
      · rw [List.getElem?_eq_none (by simpa using hl)] at h
        cases h
    · rw [List.getElem?_set_ne e] at h
      obtain ⟨u, h1, h2⟩ := a.val j x h
      exact ⟨u, by rw [List.getElem?_set_ne e]; exact h1, h2⟩
  · by_cases e : i = j
    · subst e
      by_cases hl : i < env.length
      · rw [List.getElem?_set_self hl] at h
        cases h
        cases h2
      · rw [List.getElem?_eq_none (by simpa using hl)] at h
        cases h
    · rw [List.getElem?_set_ne e] at h ⊢
      exact a.own j ev x h h2
  · by_cases e : i = j
    · subst e
      rw [List.getElem?_set] at h
      simp at h
    · rw [List.getElem?_set_ne e] at h ⊢
      exact a.lent j x h
  · have ne : ∀ {j : Nat} {e : Ev} {x : W}, (env.set i (some (.v w)))[j]? = some (some e) → e.alone = some x → i ≠ j := fun {j e x} h h2 z => by
      subst z
      rw [List.getElem?_set] at h
      simp at h
      obtain ⟨_, h⟩ := h
      subst h
      cases h2
    have n1 := ne h1 h2
    have n2 := ne h3 h4
    rw [List.getElem?_set_ne n1] at h1 h5
    rw [List.getElem?_set_ne n2] at h3 h6
    exact a.dis j k e e' x x' p h1 h2 h3 h4 h5 h6
/-- a name is stored: a thing that it holds alone -/
theorem At.setA (a : At S B env F σ H) {w : W} {ev0 : Ev} {p : Addr} {o : HO} (i : Nat) (al : ev0.alone = some w) (hb : ∀ u, ev0 = .b u → p = B.ba i) (hF : F p = none) (hB : B.B p = none) (fr : Free env σ p) (hp : H p = some o) (r : Rc S.g F w o) : At S B (env.set i (some ev0)) F (σ.set i (some (.ref p))) H := by
  have old : ∀ {j : Nat} {e : Ev}, i ≠ j → (env.set i (some ev0))[j]? = some (some e) → env[j]? = some (some e) := fun n h => by rwa [List.getElem?_set_ne n] at h
  have self : ∀ {e : Ev}, (env.set i (some ev0))[i]? = some (some e) → e = ev0 ∧ i < env.length := fun {e} h => by
    by_cases hl : i < env.length
    · rw [List.getElem?_set_self hl] at h
      cases h
      exact ⟨rfl, hl⟩
    · rw [List.getElem?_eq_none (by simpa using hl)] at h
      cases h
  have at_ : i < env.length → (σ.set i (some (V.ref p)))[i]? = some (some (.ref p)) := fun hl => List.getElem?_set_self (by rw [← a.len]; exact hl)
  refine ⟨a.le, a.fr, a.dj, by simp [a.len], fun j x h => ?_, fun j ev x h h2 => ?_, fun j x h => ?_, fun j k e e' x x' q h1 h2 h3 h4 h5 h6 => ?_, a.tb, a.bm, a.nt⟩
  · by_cases e : i = j
    · subst e
      have z := (self h).1
      rw [← z] at al
      cases al
    · obtain ⟨u, h1, h2⟩ := a.val j x (old e h)
      exact ⟨u, by rw [List.getElem?_set_ne e]; exact h1, h2⟩
  · by_cases e : i = j
    · subst e
      obtain ⟨rfl, hl⟩ := self h
      rw [al] at h2
      cases h2
      exact ⟨p, o, at_ hl, hF, hB, hp, r⟩
    · rw [List.getElem?_set_ne e]
      exact a.own j ev x (old e h) h2
  · by_cases e : i = j
    · subst e
      obtain ⟨z, hl⟩ := self h
      rw [← hb x z.symm]
      exact at_ hl
    · rw [List.getElem?_set_ne e]
      exact a.lent j x (old e h)
  · by_cases e1 : i = j
    · by_cases e2 : i = k
      · rw [← e1, ← e2]
      · subst e1
        obtain ⟨rfl, hl⟩ := self h1
        rw [at_ hl] at h5
        cases h5
        rw [List.getElem?_set_ne e2] at h6
        exact absurd h6 (fr k e' x' (old e2 h3) h4)
    · by_cases e2 : i = k
      · subst e2
        obtain ⟨rfl, hl⟩ := self h3
        rw [at_ hl] at h6
        cases h6
        rw [List.getElem?_set_ne e1] at h5
        exact absurd h5 (fr j e x (old e1 h1) h2)
      · rw [List.getElem?_set_ne e1] at h5
        rw [List.getElem?_set_ne e2] at h6
        exact a.dis j k e e' x x' q (old e1 h1) h2 (old e2 h3) h4 h5 h6
theorem At.setO (a : At S B env F σ H) {w : W} {p : Addr} {o : HO} (i : Nat) (hF : F p = none) (hB : B.B p = none) (fr : Free env σ p) (hp : H p = some o) (r : Rc S.g F w o) : At S B (env.set i (some (.o w))) F (σ.set i (some (.ref p))) H :=
  a.setA i rfl (fun _ z => nomatch z) hF hB fr hp r
end
end Pv
namespace Pv
open PySem L2
open Pg (TakesH Top XEA WB)

/-- the raised error as it lies -/
inductive Rx (S : Wo) (F : Hp) : XV → Value → Option Addr → Prop
  | none {c : Str} {C : Addr} (h : S.mg c = some (.ref C)) : Rx S F ⟨c, .none⟩ (.ref C) .none
  | some {c f : Str} {w : W} {C d : Addr} {v : V} (h : S.mg c = some (.ref C)) (hd : F d = .some (.xd [(f, v)])) (r : Rv S F w v) : Rx S F ⟨c, .some (f, w)⟩ (.ref C) (.some d)
theorem Rx.le {S : Wo} {F F' : Hp} (l : Le F F') {x : XV} {c : Value} {d : Option Addr} (q : Rx S F x c d) : Rx S F' x c d := by
  cases q with
  | none h => exact .none h
  | some h hd rv => exact .some h (l _ _ hd) (rv.le l)

abbrev XW := Value → Option Addr → Hp → Prop
/-- what an expression's answer must lead to: R says how the answer is seen -/
def Po {α β : Type} (S : Ctx) (B : Fx) (σ : L2.St) (F : Hp) (R : Hp → α → β → Prop) (Wd : XW) (Q : β → Hp → Prop) : Rs α → Prop
  | .ok a e => ∀ b F' H', Le F F' → At S B e F' σ H' → R F' a b → Q b H'
  | .exc x e => ∀ c d F' H', Le F F' → At S B e F' σ H' → Rx S.g F' x c d → Wd c d H'
  | .bad => False
/-- .. where the answer is a thing that nobody else has -/
def PoO (S : Ctx) (B : Fx) (σ : L2.St) (F : Hp) (Wd : XW) (Q : VK) : Rs W → Prop
  | .ok w e => ∀ p o F' H', Le F F' → At S B e F' σ H' → F' p = none → B.B p = none → Free e σ p → H' p = some o → Rc S.g F' w o → Q (.ref p) H'
  | .exc x e => ∀ c d F' H', Le F F' → At S B e F' σ H' → Rx S.g F' x c d → Wd c d H'
  | .bad => False
def EqB : Hp → Bool → Bool → Prop := fun _ a b => a = b
section
variable {α β γ δ : Type} {S : Ctx} {B : Fx} {σ : L2.St} {F F1 : Hp} {R : Hp → α → β → Prop} {R' : Hp → γ → δ → Prop} {Wd : XW} {Q Q' Q1 : β → Hp → Prop} {Qd : δ → Hp → Prop} {r : Rs α} {k : α → En → Rs γ}
theorem Po.imp (h : Po S B σ F R Wd Q r) (k : ∀ b H', Q b H' → Q' b H') : Po S B σ F R Wd Q' r := by
  cases r with
  | ok a e => exact fun b F' H' l q z => k _ _ (h b F' H' l q z)
  | exc x e => exact h
  | bad => exact h
theorem Po.at_ (l : Le F F1) (h : Po S B σ F R Wd Q r) : Po S B σ F1 R Wd Q r := by
  cases r with
  | ok a e => exact fun b F' H' l' q z => h b F' H' (l.trans l') q z
  | exc x e => exact fun c d F' H' l' q z => h c d F' H' (l.trans l') q z
  | bad => exact h
theorem PoO.at_ {Q : VK} {r : Rs W} (l : Le F F1) (h : PoO S B σ F Wd Q r) : PoO S B σ F1 Wd Q r := by
  cases r with
  | ok a e => exact fun p o F' H' l' q => h p o F' H' (l.trans l') q
  | exc x e => exact fun c d F' H' l' q z => h c d F' H' (l.trans l') q z
  | bad => exact h
/-- one answer behind the other -/
theorem Po.bnd (h : Po S B σ F R' Wd Qd (r.bind k)) (hk : ∀ a e1 b F1 H1, r = .ok a e1 → Le F F1 → At S B e1 F1 σ H1 → R F1 a b → Po S B σ F1 R' Wd Qd (k a e1) → Q1 b H1) : Po S B σ F R Wd Q1 r := by
  cases r with
  | ok a e1 => exact fun b F1 H1 l q z => hk a e1 b F1 H1 rfl l q z (Po.at_ l h)
  | exc x e1 => exact h
  | bad => exact h
/-- .. the second one a thing of its own -/
theorem Po.bndO {Qd : VK} {k : α → En → Rs W} (h : PoO S B σ F Wd Qd (r.bind k)) (hk : ∀ a e1 b F1 H1, r = .ok a e1 → Le F F1 → At S B e1 F1 σ H1 → R F1 a b → PoO S B σ F1 Wd Qd (k a e1) → Q1 b H1) : Po S B σ F R Wd Q1 r := by
  cases r with
  | ok a e1 => exact fun b F1 H1 l q z => hk a e1 b F1 H1 rfl l q z (PoO.at_ l h)
  | exc x e1 => exact h
  | bad => exact h
end

/-! ### the judgements -/
section
variable (S : Ctx)
def UE (W : WX) (e : Expr) : TE := fun σ H Q => ∃ t, (∀ X, S.Ok W X → PE X e t) ∧ t σ H Q
def UT (W : WX) (e : Expr) : TT := fun σ H Q => ∃ t, (∀ X, S.Ok W X → PT X e t) ∧ t σ H Q
def UW (W : WX) (e : Expr) : TT := fun σ H Q => ∃ t, (∀ X, S.Ok W X → PW X e t) ∧ t σ H Q
def UA (W : WX) (es : List Expr) : TA := fun σ H Q => ∃ t, (∀ X, S.Ok W X → PA X es t) ∧ t σ H Q
def US (W : WX) (st : Stmt) : TS := fun D σ H => ∃ t, (∀ X, S.Ok W X → PS X st t) ∧ t D σ H
def UB (W : WX) (sts : List Stmt) : TS := fun D σ H => ∃ t, (∀ X, S.Ok W X → PSs X sts t) ∧ t D σ H
end
section
variable {S : Ctx} {W : WX} {X : Cx}
theorem ue_pe {e : Expr} (ok : S.Ok W X) : PE X e (UE S W e) := ⟨fun pins s σ H Q I ⟨t, h, q⟩ => (h X ok).run pins s σ H Q I q⟩
theorem ut_pt {e : Expr} (ok : S.Ok W X) : PT X e (UT S W e) := ⟨fun pins s σ H Q I ⟨t, h, q⟩ => (h X ok).run pins s σ H Q I q⟩
theorem uw_pw {e : Expr} (ok : S.Ok W X) : PW X e (UW S W e) := ⟨fun wh pins s σ H Q I ⟨t, h, q⟩ => (h X ok).run wh pins s σ H Q I q⟩
theorem ua_pa {es : List Expr} (ok : S.Ok W X) : PA X es (UA S W es) := ⟨fun pos pins s σ H Q I ⟨t, h, q⟩ => (h X ok).run pos pins s σ H Q I q⟩
theorem us_ps {st : Stmt} (ok : S.Ok W X) : PS X st (US S W st) := ⟨fun pins s σ H D I ⟨t, h, q⟩ => (h X ok).run pins s σ H D I q⟩
theorem ub_pss {sts : List Stmt} (ok : S.Ok W X) : PSs X sts (UB S W sts) := ⟨fun pins s σ H D I ⟨t, h, q⟩ => (h X ok).run pins s σ H D I q⟩
end
def RE (S : Ctx) (e : Expr) (f : FE) : Prop := ∀ (W : WX) B env F σ H (Q : VK), At S B env F σ H → Po S B σ F (Rv S.g) (fun c d H' => W c d σ H') Q (f env) → UE S W e σ H Q
def RF (S : Ctx) (e : Expr) (f : FE) : Prop := ∀ (W : WX) B env F σ H (Q : VK), At S B env F σ H → PoO S B σ F (fun c d H' => W c d σ H') Q (f env) → UE S W e σ H Q
def RT (S : Ctx) (e : Expr) (f : FT) : Prop := ∀ (W : WX) B env F σ H (Q : Bool → Hp → Prop), At S B env F σ H → Po S B σ F EqB (fun c d H' => W c d σ H') Q (f env) → UT S W e σ H Q
def RW (S : Ctx) (e : Expr) (f : FT) : Prop := ∀ (W : WX) B env F σ H (Q : Bool → Hp → Prop), At S B env F σ H → Po S B σ F EqB (fun c d H' => W c d σ H') Q (f env) → UW S W e σ H Q
def RA (S : Ctx) (es : List Expr) (f : FA) : Prop := ∀ (W : WX) B env F σ H (Q : List V → Hp → Prop), At S B env F σ H → Po S B σ F (Rvs S.g) (fun c d H' => W c d σ H') Q (f env) → UA S W es σ H Q

/-- what a statement's end must lead to -/
def PoS (S : Ctx) (B : Fx) (F : Hp) (W : WX) (D : Ends) : SR → Prop
  | .nx e => ∀ F' σ' H', Le F F' → At S B e F' σ' H' → D.nx σ' H'
  | .ret w e => ∀ v F' σ' H', Le F F' → At S B e F' σ' H' → Rv S.g F' w v → D.rt v H'
  | .own w e => ∀ p o F' σ' H', Le F F' → At S B e F' σ' H' → F' p = none → B.B p = none → Free e σ' p → H' p = some o → Rc S.g F' w o → D.rt (.ref p) H'
  | .brk e => ∀ F' σ' H', Le F F' → At S B e F' σ' H' → D.bk σ' H'
  | .cnt e => ∀ F' σ' H', Le F F' → At S B e F' σ' H' → D.ct σ' H'
  | .exc x e => ∀ c d F' σ' H', Le F F' → At S B e F' σ' H' → Rx S.g F' x c d → W c d σ' H'
  | .bad => False
theorem PoS.at_ {S : Ctx} {B : Fx} {F F1 : Hp} {W : WX} {D : Ends} {r : SR} (l : Le F F1) (h : PoS S B F W D r) : PoS S B F1 W D r := by
  cases r with
  | nx e => exact fun F' σ' H' q z => h F' σ' H' (l.trans q) z
  | ret w e => exact fun v F' σ' H' q z => h v F' σ' H' (l.trans q) z
  | own w e => exact fun p o F' σ' H' q z => h p o F' σ' H' (l.trans q) z
  | brk e => exact fun F' σ' H' q z => h F' σ' H' (l.trans q) z
  | cnt e => exact fun F' σ' H' q z => h F' σ' H' (l.trans q) z
  | exc x e => exact fun c d F' σ' H' q z y => h c d F' σ' H' (l.trans q) z y
  | bad => exact h
def RS (S : Ctx) (s : Stmt) (f : FS) : Prop := ∀ (W : WX) B env F σ H (D : Ends), At S B env F σ H → PoS S B F W D (f env) → US S W s D σ H
def RB (S : Ctx) (s : List Stmt) (f : FS) : Prop := ∀ (W : WX) B env F σ H (D : Ends), At S B env F σ H → PoS S B F W D (f env) → UB S W s D σ H
section
variable {α β : Type} {S : Ctx} {B : Fx} {σ : L2.St} {F : Hp} {R : Hp → α → β → Prop} {W : WX} {D : Ends} {Q1 : β → Hp → Prop} {r : Rs α} {k : α → En → SR}
/-- an expression's answer within a statement -/
theorem Po.stm (h : PoS S B F W D (r.thn k)) (hk : ∀ x e1 b F1 H1, r = .ok x e1 → Le F F1 → At S B e1 F1 σ H1 → R F1 x b → PoS S B F1 W D (k x e1) → Q1 b H1) : Po S B σ F R (fun c d H' => W c d σ H') Q1 r := by
  cases r with
  | ok x e1 => exact fun b F1 H1 l a q => hk x e1 b F1 H1 rfl l a q (PoS.at_ l h)
  | exc x e1 => exact fun c d F1 H1 l a q => h c d F1 σ H1 l a q
  | bad => exact h
theorem PoO.stm {r : Rs Pv.W} {k : Pv.W → En → SR} {Wd : WX} {Q1 : VK} (h : PoS S B F Wd D (r.thn k)) (hk : ∀ x e1 p o F1 H1, r = .ok x e1 → Le F F1 → At S B e1 F1 σ H1 → F1 p = none → B.B p = none → Free e1 σ p → H1 p = some o → Rc S.g F1 x o → PoS S B F1 Wd D (k x e1) → Q1 (.ref p) H1) : PoO S B σ F (fun c d H' => Wd c d σ H') Q1 r := by
  cases r with
  | ok x e1 => exact fun p o F1 H1 l a f1 f2 f3 f4 q => hk x e1 p o F1 H1 rfl l a f1 f2 f3 f4 q (PoS.at_ l h)
  | exc x e1 => exact fun c d F1 H1 l a q => h c d F1 σ H1 l a q
  | bad => exact h
end

/-! ### freezing -/
/-- what may be locked behind an expression -/
def Gk (Q : VK) : VK := fun v H1 => Q v H1 ∨ ∃ d u, H1 d = some u ∧ Mut (some u) ∧ ∀ od, Q v (upd H1 d (.frz od u))
theorem pe_gk {X : Cx} {e : Expr} {t : TE} (h : PE X e t) : PE X e (fun σ H Q => t σ H (Gk Q)) := by
  refine ⟨fun pins s σ H Q I q => thn (h.run pins s σ H _ I q) fun u s1 ⟨v, H1, I1, r, z⟩ => ?_⟩
  rcases z with z | ⟨d, o, hd, mu, z⟩
  · exact ⟨v, H1, I1, r, z⟩
  · obtain ⟨od, I2⟩ := I1.lock hd mu
    exact ⟨v, _, I2, r, z od⟩
theorem ue_gk {S : Ctx} {W : WX} {e : Expr} {σ : L2.St} {H : Hp} {Q : VK} (h : UE S W e σ H (Gk Q)) : UE S W e σ H Q := by
  obtain ⟨t, h1, h2⟩ := h
  exact ⟨_, fun X ok => pe_gk (h1 X ok), h2⟩
section
variable {S : Ctx} {B : Fx} {env : En} {F : Hp} {σ : L2.St} {H : Hp} {p : Addr} {o : HO} {w : W} {Q : VK}
theorem po_frz (a : At S B env F σ H) (hF : F p = none) (hB : B.B p = none) (fr : Free env σ p) (hp : H p = some o) (rc : Rc S.g F w o)
    (h : ∀ F' H', Le F F' → At S B env F' σ H' → Rv S.g F' w (.ref p) → Q (.ref p) H') : Gk Q (.ref p) H := by
  cases rc with
  | lst r hl => exact .inl (h _ _ (Le.new hF) (a.frz0 hF hB fr hp) (.lst upd_same (r.le (Le.new hF))))
  | ins hm e r => exact .inl (h _ _ (Le.new hF) (a.frz0 hF hB fr hp) (.ins hm upd_same e (r.le (Le.new hF))))
  | dK e r => exact .inr ⟨p, _, hp, True.intro, fun od => h _ _ (Le.new hF) (a.frz hF hB fr hp (.dK _)) (.dK upd_same e (r.le (Le.new hF)))⟩
  | dT n e r => exact .inr ⟨p, _, hp, True.intro, fun od => h _ _ (Le.new hF) (a.frz hF hB fr hp (.dT _)) (.dT n upd_same e (r.le (Le.new hF)))⟩
end
theorem re_rf {S : Ctx} {e : Expr} {f : FE} (h : RF S e f) : RE S e f := fun W B env F σ H Q a q => ue_gk (h W B env F σ H _ a (by
  cases e1 : f env with
  | ok w e1' =>
    rw [e1] at q
    exact fun p o F' H' l a' f1 f2 f3 f4 rc => po_frz a' f1 f2 f3 f4 rc fun F2 H2 l2 a2 rv => q _ F2 H2 (l.trans l2) a2 rv
  | exc x e1' => rw [e1] at q; exact q
  | bad => rw [e1] at q; exact q))

/-! ### names, constants -/
def fVar (i : Nat) : FE := fun env => match env[i]? with
  | some (some (.v w)) => .ok w env
  | some (some (.o w)) => .ok w (env.set i (some (.v w)))
  | _ => .bad
def fC (w : W) : FE := fun env => .ok w env
section
variable {S : Ctx} {pos : Pos}
/-- a thing that a name holds alone becomes a value: the slot -/
theorem At.melt {B : Fx} {env : En} {F : Hp} {σ : L2.St} {H : Hp} (a : At S B env F σ H) {i : Nat} {w : W} (e : env[i]? = some (some (.o w))) {Q : VK}
    (h : ∀ v F' H', Le F F' → At S B (env.set i (some (.v w))) F' σ H' → Rv S.g F' w v → Q v H') : ∃ v, σ[i]? = some (some v) ∧ Gk Q v H := by
  obtain ⟨p, o, e1, e2, e3, e4, e5⟩ := a.own i _ w e rfl
  have hi : i < env.length := (List.getElem?_eq_some_iff.mp e).1
  have hs : σ.set i (some (V.ref p)) = σ := by
    refine List.ext_getElem? fun j => ?_
    by_cases q : i = j
    · subst q; rw [List.getElem?_set_self (by rw [← a.len]; exact hi), e1]
    · rw [List.getElem?_set_ne q]
  have wipe : At S B (env.set i none) F σ H := by
    have old : ∀ {j : Nat} {ev : Ev}, (env.set i none)[j]? = some (some ev) → i ≠ j ∧ env[j]? = some (some ev) := fun {j ev} h => by
      by_cases q : i = j
      · subst q; rw [List.getElem?_set_self hi] at h; cases h
      · rw [List.getElem?_set_ne q] at h; exact ⟨q, h⟩
    exact ⟨a.le, a.fr, a.dj, by simp [a.len], fun j x q => a.val j x (old q).2, fun j ev x q z => a.own j ev x (old q).2 z, fun j x q => a.lent j x (old q).2, fun j k e e' x x' q h1 h2 h3 h4 => a.dis j k e e' x x' q (old h1).2 h2 (old h3).2 h4, a.tb, a.bm, a.nt⟩
  have fr : Free (env.set i none) σ p := fun j ev x h1 h2 h3 => by
    by_cases q : i = j
    · subst q; rw [List.getElem?_set_self hi] at h1; cases h1
    · rw [List.getElem?_set_ne q] at h1
      exact q (a.dis i j _ _ w x p e rfl h1 h2 e1 h3)
  refine ⟨.ref p, e1, po_frz wipe e2 e3 fr e4 e5 fun F' H' l a' rv => h (.ref p) F' H' l ?_ rv⟩
  have z := a'.set rv i
  rw [hs, List.set_set] at z
  exact z
theorem re_var {i : Nat} {x : Str} (hN : S.N[i]? = some x) (hv : Vis S.sc x) (hd : (x == ("__debug__" : Str)) = false := by decide) (hcd : (x == ("__classdict__" : Str)) = false := by decide) : RE S (.Name x pos) (fVar i) := by
  intro W B env F σ H Q a h
  unfold fVar at h
  split at h
  · rename_i w e
    obtain ⟨v, h1, h2⟩ := a.val i w e
    exact ⟨tVar i, fun X ok => pe_var (by rw [ok.N]; exact hN) (by rw [ok.sc]; exact hv) hd hcd, v, h1, h v F H (.refl F) a h2⟩
  · rename_i w e
    exact ⟨_, fun X ok => pe_gk (pe_var (i := i) (by rw [ok.N]; exact hN) (by rw [ok.sc]; exact hv) hd hcd), a.melt e h⟩
  · exact h.elim
theorem re_c {e : Expr} {w : W} {v : V} (hp : ∀ X : Cx, X.mg = S.g.mg → X.env.scope = S.sc → PE X e (tC v)) (rv : ∀ F, Rv S.g F w v) : RE S e (fC w) := fun W B env F σ H Q a h =>
  ⟨tC v, fun X ok => hp X ok.mg ok.sc, h v F H (.refl F) a (rv _)⟩
theorem re_int {i : Int} {j : Nat} : RE S (.Constant (.int i) j pos) (fC (.int i)) := re_c (v := .int i) (fun _ _ _ => pe_int) fun _ => .int i
theorem re_bl {b : Bool} {j : Nat} : RE S (.Constant (.bool b) j pos) (fC (.bl b)) := re_c (v := .bl b) (fun _ _ _ => pe_bl) fun _ => .bl b
theorem re_non {j : Nat} : RE S (.Constant .none j pos) (fC .non) := re_c (v := .non) (fun _ _ _ => pe_non) fun _ => .non
theorem re_str {x : Str} {j : Nat} : RE S (.Constant (.str x) j pos) (fC (.str x)) := re_c (v := .str x) (fun _ _ _ => pe_str) fun _ => .str x
theorem re_gint {x : Str} {i : Int} {t : Tok} (hg : S.sc.names.lookup x = some .globalImplicit) (hm : S.g.mg x = some (.int i t)) (hd : (x == ("__debug__" : Str)) = false := by decide) : RE S (.Name x pos) (fC (.int i)) :=
  re_c (v := .int i) (fun X e1 e2 => pe_glob (by show X.env.scope.names.lookup x = _; rw [e2]; exact hg) (by rw [e1]; exact hm) ⟨t, rfl⟩ hd) fun _ => .int i
theorem re_gintE {x : Str} {i : Int} (hg : S.sc.names.lookup x = some .globalImplicit) (hm : ∃ t, S.g.mg x = some (.int i t)) (hd : (x == ("__debug__" : Str)) = false := by decide) : RE S (.Name x pos) (fC (.int i)) := by
  obtain ⟨t, h⟩ := hm
  exact re_gint hg h hd
theorem re_bty {x : Str} {n : String} (hg : S.sc.names.lookup x = some .globalImplicit) (hm : S.g.mg x = none) (hv : bootBuiltins x = some (.type n)) (hn : x ≠ "__name__" := by decide) (hd : (x == ("__debug__" : Str)) = false := by decide) : RE S (.Name x pos) (fC (.ty n)) :=
  re_c (v := .ty n) (fun X e1 e2 => pe_bltn (by show X.env.scope.names.lookup x = _; rw [e2]; exact hg) (by rw [e1]; exact hm) hv rfl hn hd) fun _ => .ty n
theorem re_gref {x : Str} {a : Addr} (hg : S.sc.names.lookup x = some .globalImplicit) (hm : S.g.mg x = some (.ref a)) (hd : (x == ("__debug__" : Str)) = false := by decide) : RE S (.Name x pos) (fC (.gl x)) :=
  re_c (v := .ref a) (fun X e1 e2 => pe_glob (by show X.env.scope.names.lookup x = _; rw [e2]; exact hg) (by rw [e1]; exact hm) rfl hd) fun _ => .gl hm
end

/-! ### operators by values -/
/-- what follows an operator's answer -/
abbrev Nx (S : Ctx) (B : Fx) (env : En) (F : Hp) (σ : L2.St) (Q : VK) (z : W) : Prop := ∀ v F' H', Le F F' → At S B env F' σ H' → Rv S.g F' z v → Q v H'
/-- what an operator's meaning f has to keep, op being the machine's -/
def Op2 (S : Ctx) (g : Value → Value → Sem Value) (f : W → W → Option W) : Prop := ∀ (Wx : WX) B env F σ H x y z vx vy (Q : VK),
  At S B env F σ H → Rv S.g F x vx → Rv S.g F y vy → f x y = some z → Nx S B env F σ Q z → ∃ r : R2, (∀ X, S.Ok Wx X → OpR X g r) ∧ r vx vy H Q
def ofO {α : Type} (r : Option α) (e : En) : Rs α := match r with
  | some w => .ok w e
  | none => .bad
def fBin (f : W → W → Option W) (a b : FE) : FE := fun env => (a env).bind fun x e1 => (b e1).bind fun y e2 => ofO (f x y) e2
section
variable {S : Ctx} {pos : Pos}
theorem nx_here {B : Fx} {env : En} {F : Hp} {σ : L2.St} {H : Hp} {Q : VK} {z : W} {v : V} (n : Nx S B env F σ Q z) (a : At S B env F σ H) (r : Rv S.g F z v) : Q v H := n v F H (.refl F) a r
theorem nx_tup {B : Fx} {env : En} {F : Hp} {σ : L2.St} {H : Hp} {Q : VK} {ws : List W} {vs : List V} {p : Addr} (n : Nx S B env F σ Q (.tup ws)) (a : At S B env F σ H) (r : Rvs S.g F ws vs) (hp : H p = none) : Q (.ref p) (upd H p (.tup vs)) :=
  n _ _ _ (Le.new (none_le a.le hp)) (a.new hp _) (.tup upd_same (r.le (Le.new (none_le a.le hp))))
theorem nx_lst {B : Fx} {env : En} {F : Hp} {σ : L2.St} {H : Hp} {Q : VK} {ws : List W} {vs : List V} {p : Addr} (n : Nx S B env F σ Q (.lst ws)) (a : At S B env F σ H) (r : Rvs S.g F ws vs) (hp : H p = none) : Q (.ref p) (upd H p (.lst vs)) :=
  n _ _ _ (Le.new (none_le a.le hp)) (a.new hp _) (.lst upd_same (r.le (Le.new (none_le a.le hp))))
def UR (S : Ctx) (W : WX) (g : Value → Value → Sem Value) : R2 := fun x y H Q => ∃ r : R2, (∀ X, S.Ok W X → OpR X g r) ∧ r x y H Q
theorem ur_op {W : WX} {X : Cx} {g : Value → Value → Sem Value} (ok : S.Ok W X) : OpR X g (UR S W g) := fun pins s σ H x y v u Q I r1 r2 ⟨r, h, q⟩ => h X ok pins s σ H x y v u Q I r1 r2 q
theorem Po.ofO {B : Fx} {e : En} {σ : L2.St} {F : Hp} {Wd : XW} {Q : VK} {r : Option W} (h : Po S B σ F (Rv S.g) Wd Q (ofO r e)) : ∃ z, r = some z ∧ Nx S B e F σ Q z := by
  cases r with
  | none => exact h.elim
  | some z => exact ⟨z, rfl, h⟩
/-- the reading of two parts and an operator -/
theorem rd2 {W : WX} {B : Fx} {env : En} {F : Hp} {σ : L2.St} {H : Hp} {Q : VK} {a b : Expr} {fa fb : FE} {g : Value → Value → Sem Value} {f : Pv.W → Pv.W → Option Pv.W} (ha : RE S a fa) (hb : RE S b fb) (ho : Op2 S g f)
    (at_ : At S B env F σ H) (h : Po S B σ F (Rv S.g) (fun c d H' => W c d σ H') Q (fBin f fa fb env)) : tOp (UR S W g) (UE S W a) (UE S W b) σ H Q := by
  refine ha W B env F σ H _ at_ (Po.bnd h fun x e1 vx F1 H1 _ l1 a1 r1 q1 => ?_)
  refine hb W B e1 F1 σ H1 _ a1 (Po.bnd q1 fun y e2 vy F2 H2 _ l2 a2 r2 q2 => ?_)
  obtain ⟨z, ez, n⟩ := q2.ofO
  exact ho W B e2 F2 σ H2 x y z vx vy Q a2 (r1.le l2) r2 ez n
theorem re_bin {a b : Expr} {fa fb : FE} {op : Operator} {f : W → W → Option W} (ho : Op2 S (binaryOp op) f) (ha : RE S a fa) (hb : RE S b fb) : RE S (.BinOp a op b pos) (fBin f fa fb) := fun W B env F σ H Q at_ h =>
  ⟨_, fun X ok => pe_op (ur_op ok) (ue_pe ok) (ue_pe ok), rd2 ha hb ho at_ h⟩
theorem re_cmp {a b : Expr} {fa fb : FE} {op : CmpOp} {f : W → W → Option W} (ho : Op2 S (compareOp op) f) (ha : RE S a fa) (hb : RE S b fb) (hm : behindInMarks op b = false := by first | exact nobehind _ (by decide) (by decide) | rfl) : RE S (.Compare a [op] [b] pos) (fBin f fa fb) := fun W B env F σ H Q at_ h =>
  ⟨_, fun X ok => pe_cmpR (ur_op ok) (ue_pe ok) (ue_pe ok) hm, rd2 ha hb ho at_ h⟩
end
end Pv
namespace Pv
open PySem PySem.Spec PyProof.Rows L2

/-- numbers that can be multiplied and divided by -/
def lim : Nat := 2 ^ 8192
abbrev Sm (i : Int) : Prop := i.natAbs < lim
theorem Sm.mul {i j : Int} (h : Sm i) (k : Sm j) : CMulW i j := wide_mul (a := 8192) (b := 8192) h k (by decide) (by decide) (by decide)
theorem Sm.div {i j : Int} (h : 0 < j) (k : Sm j) : CDivW i j := wide_div (b := 8192) h k (by decide) (by decide)
theorem Sm.shl {i j : Int} (h : Sm i) (h0 : 0 ≤ j) (h1 : j ≤ 1000000) : CShl i j := by
  have x := PySem.Flt.log2_lt_of (show 0 < 8192 by decide) h
  refine ⟨h0, ?_⟩
  have : Builtin.Int.intBits i ≤ 8193 := by
    unfold Builtin.Int.intBits
    split <;> omega
  have e : (2 : Int) ^ 27 = 134217728 := by decide
  rw [e]
  omega
/-- // by any divisor but 0 -/
def DivZ (_ j : Int) : Prop := j ≠ 0 ∧ j.natAbs.log2 < 8192
theorem op_divZ {X : Cx} : OpR X (binaryOp .FloorDiv) (rI DivZ fun i j => .int (Int.fdiv i j)) := opI fun i j _ _ _ _ _ hz q =>
  PyProof.Rows.floordiv_int hz.1 q (.inl (PyProof.noPylong_of_log2 (Nat.lt_trans hz.2 (by decide))))

def fAdd (x y : W) : Option W := match x, y with
  | .int i, .int j => some (.int (i + j))
  | .str a, .str b => if a.length + b.length ≤ sizeLine then some (.str (a ++ b)) else none
  | .lst xs, .lst ys => if xs.length + ys.length ≤ sizeLine then some (.lst (xs ++ ys)) else none
  | .tup xs, .tup ys => if xs.length + ys.length ≤ sizeLine then some (.tup (xs ++ ys)) else none
  | _, _ => none
def fSub (x y : W) : Option W := match x, y with
  | .int i, .int j => some (.int (i - j))
  | _, _ => none
def fMul (x y : W) : Option W := match x, y with
  | .int i, .int j => if Sm i ∧ Sm j then some (.int (i * j)) else none
  | .lst xs, .int k => if 0 ≤ k ∧ k < 2 ^ 63 ∧ xs.length * k.toNat ≤ sizeLine then some (.lst (List.replicate k.toNat xs).flatten) else none
  | _, _ => none
def fDiv (x y : W) : Option W := match x, y with
  | .int i, .int j => if 0 < j ∧ Sm j then some (.int (i / j)) else if j < 0 ∧ Sm j then some (.int (Int.fdiv i j)) else none
  | _, _ => none
def fMod (x y : W) : Option W := match x, y with
  | .int i, .int j => if 0 < j then some (.int (i % j)) else none
  | _, _ => none
def fPow (x y : W) : Option W := match x, y with
  | .int i, .int j => if 0 ≤ j ∧ j ≤ 1000000 ∧ i.natAbs < 2 ^ 64 then some (.int (i ^ j.toNat)) else none
  | _, _ => none
def fShl (x y : W) : Option W := match x, y with
  | .int i, .int j => if 0 ≤ j ∧ j ≤ 1000000 ∧ Sm i then some (.int (i * 2 ^ j.toNat)) else none
  | _, _ => none
def fAnd (x y : W) : Option W := match x, y with
  | .int i, .int j => some (.int (Builtin.bitAnd i j))
  | _, _ => none
def fLt (x y : W) : Option W := match x, y with
  | .int i, .int j => some (.bl (decide (i < j)))
  | .str i, .str j => some (.bl (decide (i.cps.toList < j.cps.toList)))
  | _, _ => none
def fLe (x y : W) : Option W := match x, y with
  | .int i, .int j => some (.bl (decide (i ≤ j)))
  | .str i, .str j => some (.bl (!decide (j.cps.toList < i.cps.toList)))
  | _, _ => none
def fGt (x y : W) : Option W := match x, y with
  | .int i, .int j => some (.bl (decide (j < i)))
  | _, _ => none
def fGe (x y : W) : Option W := match x, y with
  | .int i, .int j => some (.bl (decide (j ≤ i)))
  | _, _ => none
def isNon : W → Option Bool
  | .jk => none
  | .non => some true
  | _ => some false
def fIsNone (x y : W) : Option W := match y with
  | .non => (isNon x).map .bl
  | _ => none
def fNotNone (x y : W) : Option W := match y with
  | .non => (isNon x).map fun b => .bl (!b)
  | _ => none

/-- data -/
def goL (f : W → Option PyData) : List W → Option (List PyData)
  | [] => some []
  | w :: ws => match f w, goL f ws with
    | some d, some ds => some (d :: ds)
    | _, _ => none
def toD : Nat → W → Option PyData
  | 0, _ => none
  | k + 1, x => match x with
    | .non => some .none
    | .bl b => some (.bool b)
    | .int i => some (.int i)
    | .str x => some (.str x)
    | .tup ws => (goL (toD k) ws).map .tuple
    | .lst ws => (goL (toD k) ws).map .list
    | .rol ws => (goL (toD k) ws).map .list
    | _ => none
def fEqB (x y : W) : Option Bool := match x, y with
  | .int i, .int j => some (decide (i = j))
  | .str i, .str j => some (decide (i = j))
  | .bl i, .bl j => some (decide (i = j))
  | x, y => match toD 20 x, toD 20 y with
    | some d, some e => if SeqAt.shaped d = true ∧ SeqAt.shaped e = true then some (PyData.eqv d e) else none
    | _, _ => none
def fEq (x y : W) : Option W := (fEqB x y).map .bl
def fNe (x y : W) : Option W := (fEqB x y).map fun b => .bl (!b)

theorem toD_dp {S : Wo} {F H : Hp} (l : Le F H) : ∀ (k : Nat), (∀ {w : W} {v : V} {d : PyData}, Rv S F w v → toD k w = some d → Dp S.K H v d) ∧
    (∀ {ws : List W} {vs : List V} {ds : List PyData}, Rvs S F ws vs → goL (toD k) ws = some ds → DpAll S.K H vs ds) := by
  have all : ∀ k, (∀ {w : W} {v : V} {d : PyData}, Rv S F w v → toD k w = some d → Dp S.K H v d) → ∀ {ws : List W} {vs : List V} {ds : List PyData}, Rvs S F ws vs → goL (toD k) ws = some ds → DpAll S.K H vs ds := by
    intro k h ws
    induction ws with
    | nil =>
      intro vs ds rv e
      cases rv
      simp [goL] at e
      subst e
      exact .nil
    | cons w ws ih =>
      intro vs ds rv e
      cases rv with
      | cons h1 h2 =>
        simp only [goL] at e
        split at e
        · rename_i d1 d2 e1 e2
          cases e
          exact .cons (h h1 e1) (ih h2 e2)
        · cases e
  intro k
  induction k with
  | zero => 
    refine ⟨fun _ e => by simp [toD] at e, all 0 (fun _ e => by simp [toD] at e)⟩
  | succ k ih =>
    have one : ∀ {w : W} {v : V} {d : PyData}, Rv S F w v → toD (k + 1) w = some d → Dp S.K H v d := by
      intro w v d rv e
      cases rv with
      | non => simp [toD] at e; subst e; exact .non
      | bl b => simp [toD] at e; subst e; exact .bl b
      | int i => simp [toD] at e; subst e; exact .int i
      | str x => simp [toD] at e; subst e; exact .str x
      | tup h q =>
        simp only [toD, Option.map_eq_some_iff] at e
        obtain ⟨ds, e, rfl⟩ := e
        exact .tup (.of (l _ _ h)) (ih.2 q e)
      | lst h q =>
        simp only [toD, Option.map_eq_some_iff] at e
        obtain ⟨ds, e, rfl⟩ := e
        exact .lst (.of (l _ _ h)) (ih.2 q e)
      | rol h q =>
        simp only [toD, Option.map_eq_some_iff] at e
        obtain ⟨ds, e, rfl⟩ := e
        exact .lst (SqL.le l h) (ih.2 q e)
      | _ => simp [toD] at e
    exact ⟨one, all (k + 1) one⟩

section
variable {S : Ctx}
theorem o_add : Op2 S (binaryOp .Add) fAdd := by
  intro Wx B env F σ H x y z vx vy Q a rx ry h n
  unfold fAdd at h
  split at h
  · cases h; cases rx; cases ry
    exact ⟨_, fun X ok => op_add, _, _, rfl, rfl, nx_here n a (.int _)⟩
  · cases rx; cases ry
    split at h
    · rename_i hl
      cases h
      exact ⟨_, fun X ok => op_add_str, _, _, rfl, rfl, hl, nx_here n a (.str _)⟩
    · cases h
  · cases rx with
    | lst h1 h2 =>
      cases ry with
      | lst h3 h4 =>
        split at h
        · rename_i hl
          cases h
          exact ⟨_, fun X ok => op_cat, _, _, _, _, rfl, rfl, a.le _ _ h1, a.le _ _ h3, by rw [h2.length, h4.length]; exact hl, fun p hp => nx_lst n a (h2.append h4) hp⟩
        · cases h
  · rename_i xs ys
    cases rx with
    | tup hx qx =>
      cases ry with
      | @tup _ b _ hy qy =>
        have tx := SqT.of (K := S.g.K) (a.le _ _ hx)
        have ty := SqT.of (K := S.g.K) (a.le _ _ hy)
        split at h
        · rename_i hl
          cases h
          refine ⟨rCatA S.g.K, fun X ok => (by have z := @op_catA X; rw [ok.K] at z; exact z), _, _, _, _, rfl, rfl, tx, ty, (by rw [qx.length, qy.length]; exact hl), fun e => ?_, fun ne e => ?_, fun _ _ p hp => nx_tup n a (qx.append qy) hp⟩
          · subst e
            cases qx
            exact nx_here n a (.tup hy qy)
          · subst e
            cases qy
            rw [List.append_nil] at n
            exact nx_here n a (.tup hx qx)
        · cases h
  · cases h
theorem o_sub : Op2 S (binaryOp .Sub) fSub := by
  intro Wx B env F σ H x y z vx vy Q a rx ry h n
  unfold fSub at h
  split at h
  · cases h; cases rx; cases ry
    exact ⟨_, fun X ok => op_sub, _, _, rfl, rfl, nx_here n a (.int _)⟩
  · cases h
theorem Rvs.rep {G : Wo} {F : Hp} {ws : List W} {vs : List V} (r : Rvs G F ws vs) : ∀ k : Nat, Rvs G F (List.replicate k ws).flatten (List.replicate k vs).flatten
  | 0 => .nil
  | k + 1 => r.append (Rvs.rep r k)
theorem o_mul : Op2 S (binaryOp .Mult) fMul := by
  intro Wx B env F σ H x y z vx vy Q a rx ry h n
  unfold fMul at h
  split at h
  · cases rx; cases ry
    split at h
    · rename_i c
      cases h
      exact ⟨_, fun X ok => op_mulW, _, _, rfl, rfl, Sm.mul c.1 c.2, nx_here n a (.int _)⟩
    · cases h
  · cases ry
    cases rx with
    | lst h1 h2 =>
      split at h
      · rename_i c
        cases h
        exact ⟨_, fun X ok => op_rep, _, _, _, rfl, rfl, a.le _ _ h1, by omega, c.2.1, by rw [h2.length]; exact c.2.2, fun p hp => nx_lst n a (h2.rep _) hp⟩
      · cases h
  · cases h
theorem o_div : Op2 S (binaryOp .FloorDiv) fDiv := by
  intro Wx B env F σ H x y z vx vy Q a rx ry h n
  unfold fDiv at h
  split at h
  · cases rx; cases ry
    split at h
    · rename_i c
      cases h
      exact ⟨_, fun X ok => op_fdivW, _, _, rfl, rfl, Sm.div c.1 c.2, nx_here n a (.int _)⟩
    · split at h
      · rename_i c
        cases h
        exact ⟨_, fun X ok => op_divZ, _, _, rfl, rfl, ⟨by omega, PySem.Flt.log2_lt_of (show 0 < 8192 by decide) c.2⟩, nx_here n a (.int _)⟩
      · cases h
  · cases h
theorem o_mod : Op2 S (binaryOp .Mod) fMod := by
  intro Wx B env F σ H x y z vx vy Q a rx ry h n
  unfold fMod at h
  split at h
  · rename_i i j
    cases rx; cases ry
    split at h
    · rename_i c
      cases h
      refine ⟨_, fun X ok => op_modN, _, _, rfl, rfl, by omega, ?_⟩
      show Q (.int (Int.fmod i j)) H
      rw [Int.fmod_eq_emod_of_nonneg _ (by omega)]
      exact nx_here n a (.int _)
    · cases h
  · cases h
theorem o_pow : Op2 S (binaryOp .Pow) fPow := by
  intro Wx B env F σ H x y z vx vy Q a rx ry h n
  unfold fPow at h
  split at h
  · cases rx; cases ry
    split at h
    · rename_i c
      cases h
      exact ⟨_, fun X ok => op_pow, _, _, rfl, rfl, c, nx_here n a (.int _)⟩
    · cases h
  · cases h
theorem o_shl : Op2 S (binaryOp .LShift) fShl := by
  intro Wx B env F σ H x y z vx vy Q a rx ry h n
  unfold fShl at h
  split at h
  · cases rx; cases ry
    split at h
    · rename_i c
      cases h
      exact ⟨_, fun X ok => op_shlW, _, _, rfl, rfl, Sm.shl c.2.2 c.1 c.2.1, nx_here n a (.int _)⟩
    · cases h
  · cases h
theorem o_and : Op2 S (binaryOp .BitAnd) fAnd := by
  intro Wx B env F σ H x y z vx vy Q a rx ry h n
  unfold fAnd at h
  split at h
  · cases h; cases rx; cases ry
    exact ⟨_, fun X ok => op_and, _, _, rfl, rfl, nx_here n a (.int _)⟩
  · cases h
theorem o_lt : Op2 S (compareOp .Lt) fLt := by
  intro Wx B env F σ H x y z vx vy Q a rx ry h n
  unfold fLt at h
  split at h
  · cases h; cases rx; cases ry
    exact ⟨_, fun X ok => op_lt, _, _, rfl, rfl, nx_here n a (.bl _)⟩
  · cases h; cases rx; cases ry
    exact ⟨_, fun X ok => op_lt_str, _, _, rfl, rfl, nx_here n a (.bl _)⟩
  · cases h
theorem o_le : Op2 S (compareOp .LtE) fLe := by
  intro Wx B env F σ H x y z vx vy Q a rx ry h n
  unfold fLe at h
  split at h
  · cases h; cases rx; cases ry
    exact ⟨_, fun X ok => op_le, _, _, rfl, rfl, nx_here n a (.bl _)⟩
  · cases h; cases rx; cases ry
    exact ⟨_, fun X ok => op_le_str, _, _, rfl, rfl, nx_here n a (.bl _)⟩
  · cases h
theorem o_gt : Op2 S (compareOp .Gt) fGt := by
  intro Wx B env F σ H x y z vx vy Q a rx ry h n
  unfold fGt at h
  split at h
  · cases h; cases rx; cases ry
    exact ⟨_, fun X ok => op_gt, _, _, rfl, rfl, nx_here n a (.bl _)⟩
  · cases h
theorem o_ge : Op2 S (compareOp .GtE) fGe := by
  intro Wx B env F σ H x y z vx vy Q a rx ry h n
  unfold fGe at h
  split at h
  · cases h; cases rx; cases ry
    exact ⟨_, fun X ok => op_ge, _, _, rfl, rfl, nx_here n a (.bl _)⟩
  · cases h
theorem isNon_ok {G : Wo} {F : Hp} {x : W} {v : V} {b : Bool} (r : Rv G F x v) (h : isNon x = some b) : decide (v = .non) = b := by
  cases r <;> simp [isNon] at h <;> subst h <;> simp
theorem o_isN : Op2 S (compareOp .Is) fIsNone := by
  intro Wx B env F σ H x y z vx vy Q a rx ry h n
  unfold fIsNone at h
  split at h
  · cases ry
    rw [Option.map_eq_some_iff] at h
    obtain ⟨b, e, rfl⟩ := h
    exact ⟨_, fun X ok => op_isN, rfl, by rw [isNon_ok rx e]; exact nx_here n a (.bl _)⟩
  · cases h
theorem o_notN : Op2 S (compareOp .IsNot) fNotNone := by
  intro Wx B env F σ H x y z vx vy Q a rx ry h n
  unfold fNotNone at h
  split at h
  · cases ry
    rw [Option.map_eq_some_iff] at h
    obtain ⟨b, e, rfl⟩ := h
    exact ⟨_, fun X ok => op_notN, rfl, by rw [isNon_ok rx e]; exact nx_here n a (.bl _)⟩
  · cases h
theorem eq_rd {Wx : WX} {B : Fx} {env : En} {F : Hp} {σ : L2.St} {H : Hp} {x y : W} {vx vy : V} {b : Bool} (a : At S B env F σ H) (rx : Rv S.g F x vx) (ry : Rv S.g F y vy) (h : fEqB x y = some b) :
    (∃ r : R2, (∀ X, S.Ok Wx X → OpR X (compareOp .Eq) r) ∧ ∀ Q : VK, Q (.bl b) H → r vx vy H Q) ∧ ∃ r : R2, (∀ X, S.Ok Wx X → OpR X (compareOp .NotEq) r) ∧ ∀ Q : VK, Q (.bl (!b)) H → r vx vy H Q := by
  unfold fEqB at h
  split at h
  · cases rx; cases ry
    cases h
    exact ⟨⟨_, fun X ok => op_eq, fun Q q => ⟨rfl, by simpa using q⟩⟩, ⟨_, fun X ok => op_ne, fun Q q => ⟨rfl, by simpa using q⟩⟩⟩
  · cases rx; cases ry
    cases h
    exact ⟨⟨_, fun X ok => op_eq, fun Q q => ⟨rfl, by simpa using q⟩⟩, ⟨_, fun X ok => op_ne, fun Q q => ⟨rfl, by simpa using q⟩⟩⟩
  · cases rx; cases ry
    cases h
    exact ⟨⟨_, fun X ok => op_eq, fun Q q => ⟨rfl, by simpa using q⟩⟩, ⟨_, fun X ok => op_ne, fun Q q => ⟨rfl, by simpa using q⟩⟩⟩
  · split at h
    · rename_i d e e1 e2
      split at h
      · rename_i c
        cases h
        exact ⟨⟨rEqD S.g.K, fun X ok => by have z := @op_eqD X (by have := ok.room.units; omega); rw [ok.K] at z; exact z, fun Q q => ⟨d, e, (toD_dp a.le 20).1 rx e1, (toD_dp a.le 20).1 ry e2, c.1, c.2, q⟩⟩,
          ⟨rNeD S.g.K, fun X ok => by have z := @op_neD X (by have := ok.room.units; omega); rw [ok.K] at z; exact z, fun Q q => ⟨d, e, (toD_dp a.le 20).1 rx e1, (toD_dp a.le 20).1 ry e2, c.1, c.2, q⟩⟩⟩
      · cases h
    · cases h
theorem o_eq : Op2 S (compareOp .Eq) fEq := by
  intro Wx B env F σ H x y z vx vy Q a rx ry h n
  unfold fEq at h
  rw [Option.map_eq_some_iff] at h
  obtain ⟨b, e, rfl⟩ := h
  obtain ⟨⟨r, h1, h2⟩, _⟩ := eq_rd (Wx := Wx) a rx ry e
  exact ⟨r, h1, h2 Q (nx_here n a (.bl _))⟩
theorem o_ne : Op2 S (compareOp .NotEq) fNe := by
  intro Wx B env F σ H x y z vx vy Q a rx ry h n
  unfold fNe at h
  rw [Option.map_eq_some_iff] at h
  obtain ⟨b, e, rfl⟩ := h
  obtain ⟨_, ⟨r, h1, h2⟩⟩ := eq_rd (Wx := Wx) a rx ry e
  exact ⟨r, h1, h2 Q (nx_here n a (.bl _))⟩

/-! ### in -/
def rInT (K : PySem.W.Frag) (neg : Bool) : R2 := fun x y H Q => ∃ d ds, Dp K H x d ∧ (Dp K H y (.list ds) ∨ Dp K H y (.tuple ds)) ∧ SeqAt.shaped d = true ∧ SeqAt.shaped (.list ds) = true ∧ SeqAt.shaped (.tuple ds) = true ∧ Q (.bl (if neg then !ds.any (fun z => PyData.eqv z d) else ds.any fun z => PyData.eqv z d)) H
theorem op_inT {X : Cx} (hu : X.A.units + 65 < cLine) : OpR X (compareOp .In) (rInT X.K false) := by
  intro pins s σ H x y v u Q I rx ry h
  obtain ⟨d, ds, hd, he, sd, sl, st, q⟩ := h
  obtain ⟨as, r1⟩ := Dp.reads I d x v hd rx
  rcases he with he | he
  · exact op_inD hu pins s σ H x y v u Q I rx ry ⟨d, ds, hd, he, sd, sl, q⟩
  · obtain ⟨bs, r2⟩ := Dp.reads I (.tuple ds) y u he ry
    exact SeqAt.in_tuple_reads r2 r1 (SeqAt.canLay_of_shaped st) (SeqAt.canLay_of_shaped sd) (room_in_shaped sd hu) ⟨.bl _, H, I, rfl, q⟩
theorem op_notInT {X : Cx} (hu : X.A.units + 65 < cLine) : OpR X (compareOp .NotIn) (rInT X.K true) := by
  intro pins s σ H x y v u Q I rx ry h
  obtain ⟨d, ds, hd, he, sd, sl, st, q⟩ := h
  obtain ⟨as, r1⟩ := Dp.reads I d x v hd rx
  rcases he with he | he
  · exact op_notInD hu pins s σ H x y v u Q I rx ry ⟨d, ds, hd, he, sd, sl, q⟩
  · obtain ⟨bs, r2⟩ := Dp.reads I (.tuple ds) y u he ry
    exact SeqAt.notIn_tuple_reads r2 r1 (SeqAt.canLay_of_shaped st) (SeqAt.canLay_of_shaped sd) (room_in_shaped sd hu) ⟨.bl _, H, I, rfl, q⟩
/-- ints alone -/
def intsW : List W → Option (List Int)
  | [] => some []
  | .int i :: ws => match intsW ws with
    | some is => some (i :: is)
    | none => none
  | _ => none
theorem ints_rv {G : Wo} {F : Hp} : ∀ {ws : List W} {vs : List V} {is : List Int}, Rvs G F ws vs → intsW ws = some is → vs = is.map V.int
  | [], _, _, .nil, e => by cases e; rfl
  | .int i :: ws, _, is, .cons (.int _) r, e => by
    simp only [intsW] at e
    split at e
    · rename_i js ej
      cases e
      rw [ints_rv r ej]
      rfl
    · cases e
def seqW : W → Option (List W)
  | .tup ws => some ws
  | .lst ws => some ws
  | .rol ws => some ws
  | _ => none
def inB (x y : W) : Option Bool := match seqW y with
  | some ws => (match toD 20 x, goL (toD 20) ws with
    | some d, some ds => if SeqAt.shaped d = true ∧ SeqAt.shaped (.list ds) = true ∧ SeqAt.shaped (.tuple ds) = true then some (ds.any fun z => PyData.eqv z d) else none
    | _, _ => none)
  | none => none
/-- an int among ints -/
def inI (i : Int) : List W → Option Bool
  | [] => some false
  | .int j :: ws => if j = i then (match intsW ws with
    | some _ => some true
    | none => none) else inI i ws
  | _ => none
theorem inI_ok {i : Int} : ∀ {ws : List W} {b : Bool}, inI i ws = some b → ∃ is, intsW ws = some is ∧ (is.any fun j => j == i) = b
  | [], b, h => by cases h; exact ⟨[], rfl, rfl⟩
  | .int j :: ws, b, h => by
    unfold inI at h
    split at h
    · rename_i e
      split at h
      · rename_i is ei
        cases h
        exact ⟨j :: is, by unfold intsW; rw [ei], by simp [e]⟩
      · cases h
    · rename_i e
      obtain ⟨is, e1, e2⟩ := inI_ok h
      exact ⟨j :: is, by unfold intsW; rw [e1], by rw [List.any_cons, e2]; simp [e]⟩
def fInB (x y : W) : Option Bool := match x, y with
  | .int i, .tup ws => match inI i ws with
    | some b => some b
    | none => inB x y
  | _, _ => inB x y
def fIn (x y : W) : Option W := (fInB x y).map .bl
def fNotIn (x y : W) : Option W := (fInB x y).map fun b => .bl (!b)
theorem inV_ints {i : Int} : ∀ is : List Int, inV (.int i) (is.map V.int) = is.any fun j => j == i
  | [] => rfl
  | j :: is => by
    have ih := inV_ints (i := i) is
    unfold inV at ih ⊢
    rw [List.map_cons, List.any_cons, List.any_cons, ih]
    rfl
theorem flat_ints : ∀ is : List Int, (is.map V.int).all flatV = true
  | [] => rfl
  | j :: is => by rw [List.map_cons, List.all_cons, flat_ints is]; rfl
theorem in_rd {Wx : WX} {B : Fx} {env : En} {F : Hp} {σ : L2.St} {H : Hp} {x y : W} {vx vy : V} {b : Bool} (a : At S B env F σ H) (rx : Rv S.g F x vx) (ry : Rv S.g F y vy) (h : fInB x y = some b) :
    (∃ r : R2, (∀ X, S.Ok Wx X → OpR X (compareOp .In) r) ∧ ∀ Q : VK, Q (.bl b) H → r vx vy H Q) ∧ ∃ r : R2, (∀ X, S.Ok Wx X → OpR X (compareOp .NotIn) r) ∧ ∀ Q : VK, Q (.bl (!b)) H → r vx vy H Q := by
  have slow : ∀ {b : Bool}, inB x y = some b → (∃ r : R2, (∀ X, S.Ok Wx X → OpR X (compareOp .In) r) ∧ ∀ Q : VK, Q (.bl b) H → r vx vy H Q) ∧ ∃ r : R2, (∀ X, S.Ok Wx X → OpR X (compareOp .NotIn) r) ∧ ∀ Q : VK, Q (.bl (!b)) H → r vx vy H Q := fun {b} h => by
    unfold inB at h
    split at h
    · rename_i ws ew
      split at h
      · rename_i d ds e1 e2
        split at h
        · rename_i c
          cases h
          have dx := (toD_dp (S := S.g) a.le 20).1 rx e1
          have dy : Dp S.g.K H vy (.list ds) ∨ Dp S.g.K H vy (.tuple ds) := by
            cases ry <;> simp [seqW] at ew
            · rename_i h1 h2; subst ew; exact .inr (.tup (.of (a.le _ _ h1)) ((toD_dp a.le 20).2 h2 e2))
            · rename_i h1 h2; subst ew; exact .inl (.lst (.of (a.le _ _ h1)) ((toD_dp a.le 20).2 h2 e2))
            · rename_i h1 h2; subst ew; exact .inl (.lst (SqL.le a.le h1) ((toD_dp a.le 20).2 h2 e2))
          exact ⟨⟨rInT S.g.K false, fun X ok => by have z := @op_inT X (by have := ok.room.un; omega); rw [ok.K] at z; exact z, fun Q q => ⟨d, ds, dx, dy, c.1, c.2.1, c.2.2, q⟩⟩,
            ⟨rInT S.g.K true, fun X ok => by have z := @op_notInT X (by have := ok.room.un; omega); rw [ok.K] at z; exact z, fun Q q => ⟨d, ds, dx, dy, c.1, c.2.1, c.2.2, q⟩⟩⟩
        · cases h
      · cases h
    · cases h
  unfold fInB at h
  split at h
  · rename_i i ws
    split at h
    · rename_i c ec
      cases h
      obtain ⟨is, e1, e2⟩ := inI_ok ec
      cases rx
      cases ry with
      | @tup _ q _ h1 h2 =>
        have ev := ints_rv h2 e1
        subst ev
        have sq : SqL S.g.K H q (is.map V.int) ∨ SqT S.g.K H q (is.map V.int) := .inr (.of (a.le _ _ h1))
        exact ⟨⟨rIn S.g.K false, fun X ok => by have z := @op_in_seq X; rw [ok.K] at z; exact z, fun Q q => ⟨_, _, rfl, sq, rfl, flat_ints is, by rw [inV_ints, e2]; exact q⟩⟩,
          ⟨rIn S.g.K true, fun X ok => by have z := @op_notIn_seq X; rw [ok.K] at z; exact z, fun Q q => ⟨_, _, rfl, sq, rfl, flat_ints is, by rw [inV_ints, e2]; exact q⟩⟩⟩
    · exact slow h
  · exact slow h
theorem o_in : Op2 S (compareOp .In) fIn := by
  intro Wx B env F σ H x y z vx vy Q a rx ry h n
  unfold fIn at h
  rw [Option.map_eq_some_iff] at h
  obtain ⟨b, e, rfl⟩ := h
  obtain ⟨⟨r, h1, h2⟩, _⟩ := in_rd (Wx := Wx) a rx ry e
  exact ⟨r, h1, h2 Q (nx_here n a (.bl _))⟩
theorem o_notIn : Op2 S (compareOp .NotIn) fNotIn := by
  intro Wx B env F σ H x y z vx vy Q a rx ry h n
  unfold fNotIn at h
  rw [Option.map_eq_some_iff] at h
  obtain ⟨b, e, rfl⟩ := h
  obtain ⟨_, ⟨r, h1, h2⟩⟩ := in_rd (Wx := Wx) a rx ry e
  exact ⟨r, h1, h2 Q (nx_here n a (.bl _))⟩
/-! ### many times -/
instance (xs : List W) : Decidable (xs ≠ []) := by
  cases xs with
  | nil => exact isFalse fun h => h rfl
  | cons a b => exact isTrue fun h => by cases h
def fRepT (x y : W) : Option W := match x, y with
  | .tup xs, .int k => if xs ≠ [] ∧ 2 ≤ k ∧ k ≤ 1000 ∧ xs.length ≤ 1000 then some (.tup (List.replicate k.toNat xs).flatten) else none
  | _, _ => none
theorem o_repT : Op2 S (binaryOp .Mult) fRepT := by
  intro Wx B env F σ H x y z vx vy Q a rx ry h n
  unfold fRepT at h
  split at h
  · split at h
    · rename_i c
      cases h
      cases rx with
      | @tup _ p vs hs hr =>
        cases ry
        have hl := hr.length
        refine ⟨rRepT S.g.K, fun X ok => by have z := @op_repT X; rw [ok.K] at z; exact z, p, _, vs, rfl, rfl, .of (a.le _ _ hs), ?_, c.2.1, c.2.2.1, by rw [hl]; exact c.2.2.2, fun p hp => nx_tup n a (hr.rep _) hp⟩
        intro e
        rw [e] at hl
        exact c.1 (List.length_eq_zero_iff.mp hl.symm)
    · cases h
  · cases h
instance (x : Str) (n : Int) : Decidable (MulOk x n) := by unfold MulOk; infer_instance
def fRepS (x y : W) : Option W := match x, y with
  | .str a, .int k => if MulOk a k then some (.str (Txt.mul a k)) else none
  | _, _ => none
theorem op_repS {X : Cx} : OpR X (binaryOp .Mult) (fun x y H Q => ∃ a k, x = .str a ∧ y = .int k ∧ MulOk a k ∧ Q (.str (Txt.mul a k)) H) := by
  intro pins s σ H x y v u Q I rx ry ⟨a, k, ex, ey, ok, q⟩
  subst ex
  subst ey
  obtain ⟨t, rfl⟩ := rx
  obtain ⟨t', rfl⟩ := ry
  exact SB.mul ok fun t2 k2 => ⟨.str _, H, I.tok _, ⟨_, rfl⟩, q⟩
theorem o_repS : Op2 S (binaryOp .Mult) fRepS := by
  intro Wx B env F σ H x y z vx vy Q a rx ry h n
  unfold fRepS at h
  split at h
  · cases rx
    cases ry
    split at h
    · rename_i c
      cases h
      exact ⟨_, fun X ok => op_repS, _, _, rfl, rfl, c, nx_here n a (.str _)⟩
    · cases h
  · cases h
end
end Pv
namespace Pv
open PySem PySem.Spec PyProof.Rows L2

/-! ### truth, tests -/
def truth (x : W) : Option Bool := match x with
  | .non => some false
  | .bl b => some b
  | .int i => some (i != 0)
  | .str x => if x.length ≤ sizeLine then some ((x.length : Int) != 0) else none
  | .tup ws => some (!ws.isEmpty)
  | .lst ws => some (!ws.isEmpty)
  | .rol ws => some (!ws.isEmpty)
  | _ => none
theorem isEmpty_of {G : Wo} {F : Hp} {ws : List W} {vs : List V} (r : Rvs G F ws vs) : vs.isEmpty = ws.isEmpty := by
  cases r <;> rfl
theorem truth_ok {G : Wo} {F H : Hp} (l : Le F H) {w : W} {v : V} {k : Bool} (rv : Rv G F w v) (h : truth w = some k) : TruV G.K v H k := by
  cases rv with
  | non => simp [truth] at h; subst h; rfl
  | bl b => simp [truth] at h; subst h; rfl
  | int i => simp only [truth, Option.some.injEq] at h; subst h; rfl
  | str x =>
    simp only [truth] at h
    split at h
    · rename_i hl
      simp only [Option.some.injEq] at h
      exact ⟨hl, h.symm⟩
    · cases h
  | tup q rs =>
    simp only [truth, Option.some.injEq] at h
    exact .inr (.inl ⟨_, .of (l _ _ q), by rw [isEmpty_of rs]; exact h.symm⟩)
  | lst q rs =>
    simp only [truth, Option.some.injEq] at h
    exact .inl ⟨_, .of (l _ _ q), by rw [isEmpty_of rs]; exact h.symm⟩
  | rol q rs =>
    simp only [truth, Option.some.injEq] at h
    exact .inl ⟨_, SqL.le l q, by rw [isEmpty_of rs]; exact h.symm⟩
  | _ => simp [truth] at h

def fTest (f : FE) : FT := fun env => (f env).bind fun x e1 => ofO (truth x) e1
def blW : W → Option Bool
  | .bl b => some b
  | _ => none
def fTestB (f : FE) : FT := fun env => (f env).bind fun x e1 => ofO (blW x) e1
def fNotT (f : FT) : FT := fun env => (f env).bind fun b e1 => .ok (!b) e1
def fAndT (f g : FT) : FT := fun env => (f env).bind fun b e1 => match b with
  | true => g e1
  | false => .ok false e1
def fOrT (f g : FT) : FT := fun env => (f env).bind fun b e1 => match b with
  | true => .ok true e1
  | false => g e1
def fNotV (f : FE) : FE := fun env => (f env).bind fun x e1 => match truth x with
  | some b => .ok (.bl (!b)) e1
  | none => .bad
def fAndV (f g : FE) : FE := fun env => (f env).bind fun x e1 => match truth x with
  | some true => g e1
  | some false => .ok x e1
  | none => .bad
def fOrV (f g : FE) : FE := fun env => (f env).bind fun x e1 => match truth x with
  | some true => .ok x e1
  | some false => g e1
  | none => .bad
def fIf (t : FT) (f g : FE) : FE := fun env => (t env).bind fun b e1 => match b with
  | true => f e1
  | false => g e1

section
variable {S : Ctx} {pos : Pos} {a b c e : Expr} {fa fb f : FE} {ft fu : FT} {rest : List Expr}
theorem Po.ofB {B : Fx} {e : En} {σ : L2.St} {F : Hp} {Wd : XW} {Q : Bool → Hp → Prop} {r : Option Bool} (h : Po S B σ F EqB Wd Q (Pv.ofO r e)) : ∃ k, r = some k ∧ ∀ H, At S B e F σ H → Q k H := by
  cases r with
  | none => exact h.elim
  | some k => exact ⟨k, rfl, fun H a => h k F H (.refl F) a rfl⟩
abbrev tTr (K : PySem.W.Frag) (ta : TE) : TT := fun σ H Q => ta σ H fun x H' => ∃ k, TruV K x H' k ∧ Q k H'
theorem pt_tr {X : Cx} {K : PySem.W.Frag} {ta : TE} (e : X.K = K) (h : PE X a ta) (he : ∀ (whole : Sem Value), PySem.isTrue a X.env whole = (do
    let v ← whole
    standAt a.pos
    holding [v] (truthy v))) : PT X a (tTr K ta) := by
  subst e
  exact pt_truth h he
theorem rt_val (h : RE S e f) (he : ∀ (env : Env) (whole : Sem Value), PySem.isTrue e env whole = (do
    let v ← whole
    standAt e.pos
    holding [v] (truthy v)) := by intro _ _; rfl) : RT S e (fTest f) := by
  intro W B env F σ H Q at_ q
  refine ⟨tTr S.g.K (UE S W e), fun X ok => pt_tr ok.K (ue_pe ok) (he X.env), h W B env F σ H _ at_ (Po.bnd q fun x e1 v F1 H1 _ l1 a1 r1 q1 => ?_)⟩
  obtain ⟨k, ek, n⟩ := q1.ofB
  exact ⟨k, truth_ok a1.le r1 ek, n _ a1⟩
/-- a comparison as a test -/
theorem rt_cmp {op : CmpOp} {g : W → W → Option W} (ho : Op2 S (compareOp op) g) (ha : RE S a fa) (hb : RE S b fb) (hm : behindInMarks op b = false := by first | exact nobehind _ (by decide) (by decide) | rfl) : RT S (.Compare a [op] [b] pos) (fTestB (fBin g fa fb)) := by
  intro W B env F σ H Q at_ q
  refine ⟨_, fun X ok => pt_cmpR (ur_op ok) (ue_pe ok) (ue_pe ok) hm, rd2 ha hb ho at_ (Po.bnd q fun x e1 v F1 H1 _ l1 a1 r1 q1 => ?_)⟩
  obtain ⟨k, ek, n⟩ := q1.ofB
  cases r1 <;> simp [blW] at ek
  subst ek
  exact ⟨_, rfl, n _ a1⟩
def fChain (f g : W → W → Option W) (fa fb fc : FE) : FE := fun env => (fa env).bind fun x e1 => (fb e1).bind fun y e2 => match f x y with
  | some (.bl true) => (fc e2).bind fun z e3 => ofO (g y z) e3
  | some (.bl false) => .ok (.bl false) e2
  | _ => .bad
theorem chain_rd {op op' : CmpOp} {g g' : Pv.W → Pv.W → Option Pv.W} {fc : FE} (ho : Op2 S (compareOp op) g) (ho' : Op2 S (compareOp op') g') (ha : RE S a fa) (hb : RE S b fb) (hc : RE S c fc)
    {W : WX} {B : Fx} {env : En} {F : Hp} {σ : L2.St} {H : Hp} {Q : VK} (at_ : At S B env F σ H) (q : Po S B σ F (Rv S.g) (fun c d H' => W c d σ H') Q (fChain g g' fa fb fc env)) :
    tChain (UR S W (compareOp op)) (UR S W (compareOp op')) (UE S W a) (UE S W b) (UE S W c) σ H Q := by
  refine ha W B env F σ H _ at_ (Po.bnd q fun x e1 vx F1 H1 _ l1 a1 r1 q1 => ?_)
  refine hb W B e1 F1 σ H1 _ a1 (Po.bnd q1 fun y e2 vy F2 H2 _ l2 a2 r2 q2 => ?_)
  split at q2
  · rename_i ek
    refine ho W B e2 F2 σ H2 x y _ vx vy _ a2 (r1.le l2) r2 ek fun vk F3 H3 l3 a3 r3 => ?_
    cases r3
    refine ⟨true, rfl, iteT ?_⟩
    refine hc W B e2 F3 σ H3 _ a3 (Po.bnd (Po.at_ l3 q2) fun z e4 vz F4 H4 _ l4 a4 r4 q4 => ?_)
    obtain ⟨u, eu, n⟩ := q4.ofO
    exact ho' W B e4 F4 σ H4 y z u vy vz Q a4 (r2.le (l3.trans l4)) r4 eu n
  · rename_i ek
    refine ho W B e2 F2 σ H2 x y _ vx vy _ a2 (r1.le l2) r2 ek fun vk F3 H3 l3 a3 r3 => ?_
    cases r3
    exact ⟨false, rfl, iteF (q2 _ F3 H3 l3 a3 (.bl _))⟩
  · exact q2.elim
theorem re_chain {op op' : CmpOp} {g g' : W → W → Option W} {fc : FE} (ho : Op2 S (compareOp op) g) (ho' : Op2 S (compareOp op') g') (ha : RE S a fa) (hb : RE S b fb) (hc : RE S c fc) (hm : lastMarks [op, op'] [b, c] = false := by rfl) :
    RE S (.Compare a [op, op'] [b, c] pos) (fChain g g' fa fb fc) := fun W B env F σ H Q at_ q => ⟨_, fun X ok => pe_chain (ur_op ok) (ur_op ok) (ue_pe ok) (ue_pe ok) (ue_pe ok) hm, chain_rd ho ho' ha hb hc at_ q⟩
theorem rt_chain {op op' : CmpOp} {g g' : W → W → Option W} {fc : FE} (ho : Op2 S (compareOp op) g) (ho' : Op2 S (compareOp op') g') (ha : RE S a fa) (hb : RE S b fb) (hc : RE S c fc) (hm : lastMarks [op, op'] [b, c] = false := by rfl) :
    RT S (.Compare a [op, op'] [b, c] pos) (fTestB (fChain g g' fa fb fc)) := by
  intro W B env F σ H Q at_ q
  refine ⟨_, fun X ok => pt_chain (ur_op ok) (ur_op ok) (ue_pe ok) (ue_pe ok) (ue_pe ok) hm, chain_rd ho ho' ha hb hc at_ (Po.bnd q fun x e1 v F1 H1 _ l1 a1 r1 q1 => ?_)⟩
  obtain ⟨k, ek, n⟩ := q1.ofB
  cases r1 <;> simp [blW] at ek
  subst ek
  exact ⟨_, rfl, n _ a1⟩
theorem rt_not (h : RT S a ft) : RT S (.UnaryOp .Not a pos) (fNotT ft) := by
  intro W B env F σ H Q at_ q
  refine ⟨tNot (UT S W a), fun X ok => pt_not (ut_pt ok), h W B env F σ H _ at_ (Po.bnd q fun x e1 v F1 H1 _ l1 a1 r1 q1 => ?_)⟩
  cases (show x = v from r1)
  exact q1 _ F1 H1 (.refl _) a1 rfl
theorem rw_and1 (h : RT S a ft) : RW S (.BoolOp .And [a] pos) ft := fun W B env F σ H Q at_ q => ⟨_, fun X ok => pw_and1 (ut_pt ok), h W B env F σ H Q at_ q⟩
theorem rw_or1 (h : RT S a ft) : RW S (.BoolOp .Or [a] pos) ft := fun W B env F σ H Q at_ q => ⟨_, fun X ok => pw_or1 (ut_pt ok), h W B env F σ H Q at_ q⟩
theorem rw_and (h : RT S a ft) (h2 : RW S (.BoolOp .And (b :: rest) pos) fu) : RW S (.BoolOp .And (a :: b :: rest) pos) (fAndT ft fu) := by
  intro W B env F σ H Q at_ q
  refine ⟨tAnd (UT S W a) (UW S W (.BoolOp .And (b :: rest) pos)), fun X ok => pw_and (ut_pt ok) (uw_pw ok), h W B env F σ H _ at_ (Po.bnd q fun x e1 v F1 H1 _ l1 a1 r1 q1 => ?_)⟩
  cases (show x = v from r1)
  cases x with
  | true => exact iteT (h2 W B e1 F1 σ H1 Q a1 q1)
  | false => exact iteF (q1 _ F1 H1 (.refl _) a1 rfl)
theorem rw_or (h : RT S a ft) (h2 : RW S (.BoolOp .Or (b :: rest) pos) fu) : RW S (.BoolOp .Or (a :: b :: rest) pos) (fOrT ft fu) := by
  intro W B env F σ H Q at_ q
  refine ⟨tOr (UT S W a) (UW S W (.BoolOp .Or (b :: rest) pos)), fun X ok => pw_or (ut_pt ok) (uw_pw ok), h W B env F σ H _ at_ (Po.bnd q fun x e1 v F1 H1 _ l1 a1 r1 q1 => ?_)⟩
  cases (show x = v from r1)
  cases x with
  | true => exact iteT (q1 _ F1 H1 (.refl _) a1 rfl)
  | false => exact iteF (h2 W B e1 F1 σ H1 Q a1 q1)
theorem rw_rt (h : RW S e ft) : RT S e ft := fun W B env F σ H Q at_ q => ⟨_, fun X ok => (uw_pw ok).pt, h W B env F σ H Q at_ q⟩
theorem re_not (h : RE S a f) : RE S (.UnaryOp .Not a pos) (fNotV f) := by
  intro W B env F σ H Q at_ q
  refine ⟨tNotT S.g.K (UE S W a), fun X ok => by have z := @pe_notT X a _ pos (ue_pe (S := S) (W := W) ok); rw [ok.K] at z; exact z, h W B env F σ H _ at_ (Po.bnd q fun x e1 v F1 H1 _ l1 a1 r1 q1 => ?_)⟩
  split at q1
  · rename_i k ek
    exact ⟨k, truth_ok a1.le r1 ek, q1 _ F1 H1 (.refl _) a1 (.bl _)⟩
  · exact q1.elim
theorem re_one {op : BoolOp} (h : RE S a f) : RE S (.BoolOp op [a] pos) f := fun W B env F σ H Q at_ q => ⟨_, fun X ok => pe_one (ue_pe ok), h W B env F σ H Q at_ q⟩
theorem re_and (h : RE S a fa) (h2 : RE S (.BoolOp .And (b :: rest) pos) fb) : RE S (.BoolOp .And (a :: b :: rest) pos) (fAndV fa fb) := by
  intro W B env F σ H Q at_ q
  refine ⟨tAndT S.g.K (UE S W a) (UE S W (.BoolOp .And (b :: rest) pos)), fun X ok => by have z := @pe_andT X a b _ _ rest pos (ue_pe (S := S) (W := W) ok) (ue_pe ok); rw [ok.K] at z; exact z, h W B env F σ H _ at_ (Po.bnd q fun x e1 v F1 H1 _ l1 a1 r1 q1 => ?_)⟩
  split at q1
  · rename_i ek
    exact ⟨true, truth_ok a1.le r1 ek, iteT (h2 W B e1 F1 σ H1 Q a1 q1)⟩
  · rename_i ek
    exact ⟨false, truth_ok a1.le r1 ek, iteF (q1 _ F1 H1 (.refl _) a1 r1)⟩
  · exact q1.elim
theorem re_or (h : RE S a fa) (h2 : RE S (.BoolOp .Or (b :: rest) pos) fb) : RE S (.BoolOp .Or (a :: b :: rest) pos) (fOrV fa fb) := by
  intro W B env F σ H Q at_ q
  refine ⟨tOrT S.g.K (UE S W a) (UE S W (.BoolOp .Or (b :: rest) pos)), fun X ok => by have z := @pe_orT X a b _ _ rest pos (ue_pe (S := S) (W := W) ok) (ue_pe ok); rw [ok.K] at z; exact z, h W B env F σ H _ at_ (Po.bnd q fun x e1 v F1 H1 _ l1 a1 r1 q1 => ?_)⟩
  split at q1
  · rename_i ek
    exact ⟨true, truth_ok a1.le r1 ek, iteT (q1 _ F1 H1 (.refl _) a1 r1)⟩
  · rename_i ek
    exact ⟨false, truth_ok a1.le r1 ek, iteF (h2 W B e1 F1 σ H1 Q a1 q1)⟩
  · exact q1.elim
theorem re_if (h : RT S c ft) (ha : RE S a fa) (hb : RE S b fb) : RE S (.IfExp c a b pos) (fIf ft fa fb) := by
  intro W B env F σ H Q at_ q
  refine ⟨tIf (UT S W c) (UE S W a) (UE S W b), fun X ok => pe_ifExp (ut_pt ok) (ue_pe ok) (ue_pe ok), h W B env F σ H _ at_ (Po.bnd q fun x e1 v F1 H1 _ l1 a1 r1 q1 => ?_)⟩
  cases (show x = v from r1)
  cases x with
  | true => exact iteT (ha W B e1 F1 σ H1 Q a1 q1)
  | false => exact iteF (hb W B e1 F1 σ H1 Q a1 q1)
/-- -e -/
def negW : W → Option W
  | .int i => some (.int (-i))
  | _ => none
def fNeg (f : FE) : FE := fun env => (f env).bind fun x e1 => ofO (negW x) e1
theorem re_neg (h : RE S a f) : RE S (.UnaryOp .USub a pos) (fNeg f) := by
  intro W B env F σ H Q at_ q
  refine ⟨_, fun X ok => pe_un un_neg (ue_pe ok), h W B env F σ H _ at_ (Po.bnd q fun x e1 v F1 H1 _ l1 a1 r1 q1 => ?_)⟩
  obtain ⟨z, ez, n⟩ := q1.ofO
  cases r1 <;> simp [negW] at ez
  subst ez
  exact ⟨_, rfl, nx_here n a1 (.int _)⟩

/-! ### displays -/
def faNil : FA := fun env => .ok [] env
def faCons (f : FE) (g : FA) : FA := fun env => (f env).bind fun x e1 => (g e1).bind fun xs e2 => .ok (x :: xs) e2
def szO (f : List W → W) (ws : List W) : Option W := if ws.length ≤ sizeLine then some (f ws) else none
def fTup (g : FA) : FE := fun env => (g env).bind fun ws e1 => ofO (szO .tup ws) e1
def fLst (g : FA) : FE := fun env => (g env).bind fun ws e1 => ofO (szO .lst ws) e1
theorem szO_ok {f : List W → W} {ws : List W} {z : W} (h : szO f ws = some z) : ws.length ≤ sizeLine ∧ f ws = z := by
  unfold szO at h
  split at h
  · cases h; exact ⟨by assumption, rfl⟩
  · cases h
theorem ra_nil : RA S [] faNil := fun W B env F σ H Q at_ q => ⟨_, fun X ok => pa_nil, q [] F H (.refl _) at_ .nil⟩
theorem ra_cons {es : List Expr} {g : FA} (h : RE S e f) (h2 : RA S es g) (he : ∀ env : Env, starEach (e :: es) env = (false, eval e env) :: starEach es env := by intro _; rfl) : RA S (e :: es) (faCons f g) := by
  intro W B env F σ H Q at_ q
  refine ⟨tCons (UE S W e) (UA S W es), fun X ok => pa_cons (ue_pe ok) (ua_pa ok) (he X.env), h W B env F σ H _ at_ (Po.bnd q fun x e1 v F1 H1 _ l1 a1 r1 q1 => ?_)⟩
  refine h2 W B e1 F1 σ H1 _ a1 (Po.bnd q1 fun xs e2 vs F2 H2 _ l2 a2 r2 q2 => ?_)
  exact q2 _ F2 H2 (.refl _) a2 (.cons (r1.le l2) r2)
theorem re_tup {es : List Expr} {g : FA} {k : Nat} (h : RA S es g) : RE S (.Tuple es k pos) (fTup g) := by
  intro W B env F σ H Q at_ q
  refine ⟨tTup (UA S W es), fun X ok => pe_tup (ua_pa ok), h W B env F σ H _ at_ (Po.bnd q fun xs e1 vs F1 H1 _ l1 a1 r1 q1 => ?_)⟩
  obtain ⟨z, ez, n⟩ := q1.ofO
  obtain ⟨hl, rfl⟩ := szO_ok ez
  exact ⟨by rw [r1.length]; exact hl, fun p hp => nx_tup n a1 r1 hp⟩
theorem re_lst {es : List Expr} {g : FA} (h : RA S es g) : RE S (.List es pos) (fLst g) := by
  intro W B env F σ H Q at_ q
  refine ⟨tLst (UA S W es), fun X ok => pe_lst (ua_pa ok), h W B env F σ H _ at_ (Po.bnd q fun xs e1 vs F1 H1 _ l1 a1 r1 q1 => ?_)⟩
  obtain ⟨z, ez, n⟩ := q1.ofO
  obtain ⟨hl, rfl⟩ := szO_ok ez
  exact ⟨by rw [r1.length]; exact hl, fun p hp => nx_lst n a1 r1 hp⟩
/-- a new list that only one has -/
theorem poO_lst {B : Fx} {env : En} {F : Hp} {σ : L2.St} {H : Hp} {Wd : XW} {Q : VK} {ws : List W} {vs : List V} {p : Addr} (h : PoO S B σ F Wd Q (.ok (.lst ws) env)) (a : At S B env F σ H) (r : Rvs S.g F ws vs) (hl : ws.length ≤ sizeLine) (hp : H p = none) : Q (.ref p) (upd H p (.lst vs)) :=
  h p _ F _ (.refl F) (a.newO hp _) (none_le a.le hp) (none_le a.fr hp) (a.ne_own hp) upd_same (.lst r hl)
theorem PoO.ofO {B : Fx} {e : En} {σ : L2.St} {F : Hp} {Wd : XW} {Q : VK} {r : Option W} (h : PoO S B σ F Wd Q (Pv.ofO r e)) : ∃ z, r = some z ∧ PoO S B σ F Wd Q (.ok z e) := by
  cases r with
  | none => exact h.elim
  | some z => exact ⟨z, rfl, h⟩
theorem rf_lst {es : List Expr} {g : FA} (h : RA S es g) : RF S (.List es pos) (fLst g) := by
  intro W B env F σ H Q at_ q
  refine ⟨tLst (UA S W es), fun X ok => pe_lst (ua_pa ok), h W B env F σ H _ at_ (Po.bndO q fun xs e1 vs F1 H1 _ l1 a1 r1 q1 => ?_)⟩
  obtain ⟨z, ez, n⟩ := q1.ofO
  obtain ⟨hl, rfl⟩ := szO_ok ez
  exact ⟨by rw [r1.length]; exact hl, fun p hp => poO_lst n a1 r1 hl hp⟩
/-- {} -/
theorem rf_dic0 : RF S (.Dict [] [] pos) (fC (.dic [])) := fun W B env F σ H Q at_ q =>
  ⟨_, fun X ok => pe_dnewK, fun p hp => q p _ F _ (.refl F) (at_.newO hp _) (none_le at_.le hp) (none_le at_.fr hp) (at_.ne_own hp) upd_same (.dK rfl .nil)⟩
theorem re_dic0 : RE S (.Dict [] [] pos) (fC (.dic [])) := re_rf rf_dic0

/-! ### subscripts -/
def ixW (x i : W) : Option W := match i with
  | .int k => match x with
    | .tup ws => atI ws k
    | .lst ws => atI ws k
    | .rol ws => atI ws k
    | .str z => if z.length ≤ sizeLine then match atI z.cps.toList k with
      | some c => some (.str ⟨#[c]⟩)
      | none => none
      else none
    | _ => none
  | _ => none
theorem atI_rv {G : Wo} {F : Hp} {ws : List W} {vs : List V} {k : Int} {w : W} (r : Rvs G F ws vs) (h : atI ws k = some w) : ∃ v, atI vs k = some v ∧ Rv G F w v := by
  unfold atI at h ⊢
  rw [r.length]
  cases e : ixN ws.length k with
  | none => rw [e] at h; cases h
  | some j => rw [e] at h; exact r.get h
/-- a dict's key as the library has it -/
def keyOf : W → Option Key
  | .int i => some (.inl i)
  | .str x => some (.inr x)
  | _ => none
def keysOf : List W → Option (List Key)
  | [] => some []
  | w :: ws => match keyOf w, keysOf ws with
    | some k, some ks => some (k :: ks)
    | _, _ => none
theorem keyOf_kW : ∀ k : Key, keyOf (kW k) = some k
  | .inl _ => rfl
  | .inr _ => rfl
theorem keyOf_ok {w : W} {k : Key} (h : keyOf w = some k) : w = kW k := by
  cases w <;> simp [keyOf] at h <;> subst h <;> rfl
theorem keysOf_ok : ∀ {ws : List W} {ks : List Key}, keysOf ws = some ks → ws = ks.map kW
  | [], _, h => by cases h; rfl
  | w :: ws, ks, h => by
    simp only [keysOf] at h
    split at h
    · rename_i k ks' e1 e2
      cases h
      rw [List.map_cons, ← keyOf_ok e1, ← keysOf_ok e2]
    · cases h
theorem kW_inj {a b : Key} (h : kW a = kW b) : a = b := by
  have z := keyOf_kW a
  rw [h, keyOf_kW] at z
  exact (Option.some.inj z).symm
theorem map_kW_inj : ∀ {a b : List Key}, a.map kW = b.map kW → a = b
  | [], [], _ => rfl
  | [], _ :: _, h => by cases h
  | _ :: _, [], h => by cases h
  | x :: xs, y :: ys, h => by
    simp only [List.map_cons, List.cons.injEq] at h
    rw [kW_inj h.1, map_kW_inj h.2]
/-- equal keys: texts, ints, tuples of such -/
def eqK : W → W → Bool
  | .int i, .int j => decide (i = j)
  | .str x, .str y => decide (x = y)
  | .tup xs, .tup ys => decide (keysOf xs = keysOf ys)
  | _, _ => false
/-- what a dict has at a key -/
def lkW (x : W) : List (W × W) → Option W
  | [] => none
  | (k, w) :: r => match eqK k x with
    | true => some w
    | false => lkW x r
theorem eqK_k (a b : Key) : eqK (kW a) (kW b) = decide (a = b) := by
  cases a <;> cases b <;> simp [kW, eqK]
theorem keysOf_map (ks : List Key) : keysOf (ks.map kW) = some ks := by
  induction ks with
  | nil => rfl
  | cons k ks ih => simp only [List.map_cons, keysOf, keyOf_kW, ih]
theorem eqK_t (a b : List Key) : eqK (tW a) (tW b) = decide (a = b) := by
  unfold tW
  simp only [eqK, keysOf_map, Option.some.injEq]
/-- what stands at a key, and how it lies -/
def Fnd (G : Wo) (F : Hp) : Option W → Option V → Prop
  | some w, o => ∃ v, o = some v ∧ Rv G F w v
  | none, o => o = none
theorem lk_k {G : Wo} {F : Hp} {k : Key} : ∀ {kvs : List (W × W)} {hk : List (Key × V)}, kvs.map (·.1) = hk.map (fun p => kW p.1) → Rvs G F (kvs.map (·.2)) (hk.map (·.2)) →
    Fnd G F (lkW (kW k) kvs) (valV hk k)
  | [], [], _, _ => rfl
  | [], _ :: _, e, _ => by cases e
  | _ :: _, [], e, _ => by cases e
  | (x, w) :: r, (j, v) :: q, e, rv => by
    simp only [List.map_cons, List.cons.injEq] at e
    obtain ⟨rfl, e⟩ := e
    cases rv with
    | cons r1 r2 =>
      have ih := lk_k (k := k) e r2
      simp only [lkW, eqK_k]
      by_cases h : j = k
      · rw [decide_eq_true h]
        exact ⟨v, valV_pos h, r1⟩
      · rw [decide_eq_false h, valV_neg h]
        exact ih
theorem lk_t {G : Wo} {F : Hp} {k : List Key} : ∀ {kvs : List (W × W)} {hk : List (List Key × V)}, kvs.map (·.1) = hk.map (fun p => tW p.1) → Rvs G F (kvs.map (·.2)) (hk.map (·.2)) →
    Fnd G F (lkW (tW k) kvs) (valV hk k)
  | [], [], _, _ => rfl
  | [], _ :: _, e, _ => by cases e
  | _ :: _, [], e, _ => by cases e
  | (x, w) :: r, (j, v) :: q, e, rv => by
    simp only [List.map_cons, List.cons.injEq] at e
    obtain ⟨rfl, e⟩ := e
    cases rv with
    | cons r1 r2 =>
      have ih := lk_t (k := k) e r2
      simp only [lkW, eqK_t]
      by_cases h : j = k
      · rw [decide_eq_true h]
        exact ⟨v, valV_pos h, r1⟩
      · rw [decide_eq_false h, valV_neg h]
        exact ih
/-- whether all keys are such as x: ints and texts, or tuples of these -/
def kindK : W → Option Bool
  | .int _ => some false
  | .str _ => some false
  | .tup ws => match keysOf ws with
    | some _ => some true
    | none => none
  | _ => none
/-- the first key's kind tells the dict's; an empty dict is of ints and texts -/
def kindD : List (W × W) → Bool
  | [] => false
  | (.tup _, _) :: _ => true
  | _ => false
/-- d.get: whether it is there, and what; none: of the wrong kind -/
def getW (kvs : List (W × W)) (x : W) : Option (Option W) := match kindK x with
  | some b => if b = kindD kvs then some (lkW x kvs) else none
  | none => none
theorem rv_tup {G : Wo} {F : Hp} {ks : List Key} : ∀ {vs : List V}, Rvs G F (ks.map kW) vs → vs = ks.map kV := by
  induction ks with
  | nil => intro vs r; cases r; rfl
  | cons k ks ih =>
    intro vs r
    cases r with
    | cons h r =>
      rw [ih r, List.map_cons]
      cases k <;> (cases h; rfl)
theorem kind_dK {kvs : List (W × W)} {hk : List (Key × V)} (e : kvs.map (·.1) = hk.map fun p => kW p.1) : kindD kvs = false := by
  cases kvs with
  | nil => rfl
  | cons p r =>
    cases hk with
    | nil => cases e
    | cons q s =>
      obtain ⟨x, w⟩ := p
      simp only [List.map_cons, List.cons.injEq] at e
      obtain ⟨rfl, _⟩ := e
      obtain ⟨k, v⟩ := q
      cases k <;> rfl
theorem kind_dT {kvs : List (W × W)} {hk : List (List Key × V)} (e : kvs.map (·.1) = hk.map fun p => tW p.1) : kvs ≠ [] → kindD kvs = true := by
  cases kvs with
  | nil => intro h; exact absurd rfl h
  | cons p r =>
    cases hk with
    | nil => cases e
    | cons q s =>
      obtain ⟨x, w⟩ := p
      simp only [List.map_cons, List.cons.injEq] at e
      obtain ⟨rfl, _⟩ := e
      intro _; rfl
/-- reading a dict at a key -/
theorem get_rd {G : Wo} {F H : Hp} (l : Le F H) {kvs : List (W × W)} {a : Addr} {x : W} {vx : V} {r : Option W} (rd : Rv G F (.dic kvs) (.ref a)) (rx : Rv G F x vx) (h : getW kvs x = some r) (ne : kvs ≠ []) :
    ∃ o, DGet H a vx o ∧ Fnd G F r o := by
  unfold getW at h
  split at h
  · rename_i b eb
    split at h
    · rename_i hb
      cases h
      cases rd with
      | dK hf e rs =>
        have kd := kind_dK e
        rw [kd] at hb
        subst hb
        have fin : ∀ k : Key, x = kW k → vx = kV k → ∃ o, DGet H a vx o ∧ Fnd G F (lkW x kvs) o := fun k ex ev => by
          subst ex ev
          have z := lk_k (k := k) e rs
          exact ⟨_, .inl ⟨_, k, .inr ⟨_, l _ _ hf⟩, rfl, rfl⟩, z⟩
        cases rx <;> simp [kindK] at eb
        · rename_i i; exact fin (.inl i) rfl rfl
        · rename_i i; exact fin (.inr i) rfl rfl
        · split at eb <;> simp at eb
      | dT _ hf e rs =>
        have kd := kind_dT e ne
        rw [kd] at hb
        subst hb
        cases rx <;> simp [kindK] at eb
        rename_i ws b2 vs h1 h2
        split at eb
        · rename_i ks ek
          have ew := keysOf_ok ek
          subst ew
          have ev := rv_tup h2
          subst ev
          have z := lk_t (k := ks) e rs
          exact ⟨_, .inr ⟨_, ks, b2, .inr ⟨_, l _ _ hf⟩, rfl, l _ _ h1, rfl⟩, z⟩
        · simp at eb
    · cases h
  · cases h
def UX (S : Ctx) (W : WX) : R2 := fun x y H Q => ∃ r : R2, (∀ X, S.Ok W X → IxR X r) ∧ r x y H Q
theorem ux_ix {W : WX} {X : Cx} (ok : S.Ok W X) : IxR X (UX S W) := fun value slice pins s σ H x y v u Q I r1 r2 ⟨r, h, q⟩ hs => h X ok value slice pins s σ H x y v u Q I r1 r2 q hs
def subW (x i : W) : Option W := match x with
  | .dic kvs => (match getW kvs i with
    | some (some w) => some w
    | _ => none)
  | _ => ixW x i
def isDic : W → Bool
  | .dic _ => true
  | _ => false
theorem ix_rd {W : WX} {B : Fx} {env : En} {F : Hp} {σ : L2.St} {H : Hp} {Q : VK} {x y z : Pv.W} {vx vy : V} (a : At S B env F σ H) (rx : Rv S.g F x vx) (ry : Rv S.g F y vy) (e : ixW x y = some z) (n : Nx S B env F σ Q z) : UX S W vx vy H Q := by
  unfold ixW at e
  split at e
  · cases ry
    split at e
    · cases rx with
      | tup h rs =>
        obtain ⟨v, e1, e2⟩ := atI_rv rs e
        exact ⟨rIxT S.g.K, fun X ok => by have z := @ix_tup X; rw [ok.K] at z; exact z, _, _, _, _, rfl, rfl, .of (a.le _ _ h), e1, nx_here n a e2⟩
    · cases rx with
      | lst h rs =>
        obtain ⟨v, e1, e2⟩ := atI_rv rs e
        exact ⟨rIxL S.g.K, fun X ok => by have z := @ix_list X; rw [ok.K] at z; exact z, _, _, _, _, rfl, rfl, .of (a.le _ _ h), e1, nx_here n a e2⟩
    · cases rx with
      | rol h rs =>
        obtain ⟨v, e1, e2⟩ := atI_rv rs e
        exact ⟨rIxL S.g.K, fun X ok => by have z := @ix_list X; rw [ok.K] at z; exact z, _, _, _, _, rfl, rfl, SqL.le a.le h, e1, nx_here n a e2⟩
    · split at e
      · rename_i hl
        split at e
        · rename_i c ec
          cases e
          cases rx
          exact ⟨_, fun X ok => ix_str, _, _, _, rfl, rfl, hl, ec, nx_here n a (.str _)⟩
        · cases e
      · cases e
    · cases e
  · cases e
theorem re_ix (ha : RE S a fa) (hb : RE S b fb) (hp : PlainIx b := by intro _ _; rfl) (hn : NoSl b := by intro _ _; rfl) : RE S (.Subscript a b pos) (fBin subW fa fb) := by
  intro W B env F σ H Q at_ q
  cases ea : fa env with
  | bad => unfold fBin at q; rw [ea] at q; exact q.elim
  | exc y e1 =>
    refine ⟨tOp (UX S W) (UE S W a) (UE S W b), fun X ok => pe_ix (ux_ix ok) (ue_pe ok) (ue_pe ok) hp, ha W B env F σ H _ at_ ?_⟩
    unfold fBin at q
    rw [ea] at q ⊢
    exact q
  | ok x e1 =>
    by_cases hx : isDic x = true
    · refine ⟨tDGet (UE S W a) (UE S W b), fun X ok => pe_dget (by have := ok.room.un; omega) (ue_pe ok) (ue_pe ok) hn, ha W B env F σ H _ at_ (Po.bnd q fun x1 e2 vx F1 H1 ex l1 a1 r1 q1 => ?_)⟩
      rw [ea] at ex
      cases ex
      refine hb W B e1 F1 σ H1 _ a1 (Po.bnd q1 fun y e2 vy F2 H2 _ l2 a2 r2 q2 => ?_)
      obtain ⟨z, ez, n⟩ := q2.ofO
      cases x <;> simp [isDic] at hx
      rename_i kvs
      unfold subW at ez
      dsimp only at ez
      split at ez
      · rename_i w eg
        cases ez
        have ne : kvs ≠ [] := fun e => by subst e; unfold getW at eg; split at eg <;> (try split at eg) <;> simp [lkW] at eg
        have r1' := r1.le l2
        obtain ⟨a', ea'⟩ : ∃ p, vx = .ref p := by cases r1' <;> exact ⟨_, rfl⟩
        subst ea'
        obtain ⟨o, dg, v, eo, rv⟩ := get_rd a2.le r1' r2 eg ne
        subst eo
        exact ⟨a', v, rfl, dg, nx_here n a2 rv⟩
      · cases ez
    · refine ⟨tOp (UX S W) (UE S W a) (UE S W b), fun X ok => pe_ix (ux_ix ok) (ue_pe ok) (ue_pe ok) hp, ha W B env F σ H _ at_ (Po.bnd q fun x1 e2 vx F1 H1 ex l1 a1 r1 q1 => ?_)⟩
      rw [ea] at ex
      cases ex
      refine hb W B e1 F1 σ H1 _ a1 (Po.bnd q1 fun y e2 vy F2 H2 _ l2 a2 r2 q2 => ?_)
      obtain ⟨z, ez, n⟩ := q2.ofO
      have ez' : ixW x y = some z := by
        unfold subW at ez
        split at ez
        · exact absurd rfl hx
        · exact ez
      exact ix_rd a2 (r1.le l2) r2 ez' n
end
end Pv
namespace Pv
open PySem PySem.Spec PyProof.Rows L2

/-! ### calls -/
/-- what a callee may lean on: B its callers' own, F what nobody changes -/
structure Gh (G : Wo) (B F H : Hp) : Prop where
  le : Le F H
  fr : Le B H
  dj : Dj B F
  tb : LamX.Tabs G.T H
  bm : ∀ (a : Addr) (o : HO), B a = some o → Mu o
  nt : ∀ (a : Addr) (ps : Array Value), F a ≠ some (.tbl ps)
theorem At.gh {S : Ctx} {B : Fx} {env : En} {F : Hp} {σ : L2.St} {H : Hp} (a : At S B env F σ H) : Gh S.g B.B F H := ⟨a.le, a.fr, a.dj, a.tb, a.bm, a.nt⟩
open Classical in
/-- the callers' own things, and the names' -/
noncomputable def ownB (B : Hp) (env : En) (σ : L2.St) (H : Hp) : Hp := fun a => match B a with
  | some o => some o
  | none => if ∃ (i : Nat) (e : Ev) (w : W), env[i]? = some (some e) ∧ e.alone = some w ∧ σ[i]? = some (some (V.ref a)) then H a else none
theorem At.call {S : Ctx} {B : Fx} {env : En} {F : Hp} {σ : L2.St} {H : Hp} (a : At S B env F σ H) : ∃ B', (∀ p, (B' p = none ↔ B.B p = none ∧ Free env σ p)) ∧ Gh S.g B' F H ∧ ∀ F' H', Le F F' → Gh S.g B' F' H' → At S B env F' σ H' := by
  have own : ∀ (i : Nat) (e : Ev) (w : W) (p : Addr), env[i]? = some (some e) → e.alone = some w → σ[i]? = some (some (V.ref p)) → ownB B.B env σ H p = H p ∧ ∃ o, H p = some o := fun i e w p h1 h2 h3 => by
    obtain ⟨q, o, e1, e2, e3, e4, e5⟩ := a.own i e w h1 h2
    rw [e1] at h3
    cases h3
    refine ⟨?_, o, e4⟩
    unfold ownB
    rw [e3]
    exact if_pos ⟨i, e, w, h1, h2, e1⟩
  have up : Le B.B (ownB B.B env σ H) := fun p o h => by unfold ownB; rw [h]
  have le : Le (ownB B.B env σ H) H := fun p o h => by
    unfold ownB at h
    split at h
    · rename_i u e; cases h; exact a.fr p _ e
    · split at h
      · exact h
      · cases h
  refine ⟨ownB B.B env σ H, fun p => ⟨fun h => ⟨?_, fun i e w h1 h2 h3 => ?_⟩, fun ⟨hp, fr⟩ => ?_⟩, ⟨a.le, le, fun p o h => ?_, a.tb, fun p o h => ?_, a.nt⟩, fun F' H' l g => ?_⟩
  · cases eb : B.B p with
    | none => rfl
    | some u => rw [up p u eb] at h; cases h
  · obtain ⟨z1, o, z2⟩ := own i e w p h1 h2 h3
    rw [h] at z1
    rw [← z1] at z2
    cases z2
  · unfold ownB
    rw [hp]
    refine if_neg fun z => ?_
    obtain ⟨j, ev, x, h1, h2, h3⟩ := z
    exact fr j ev x h1 h2 h3
  · unfold ownB at h
    split at h
    · rename_i u e; exact a.dj p _ e
    · split at h
      · rename_i z
        obtain ⟨i, e, w, h1, h2, h3⟩ := z
        obtain ⟨q, o', e1, e2, e3, e4, e5⟩ := a.own i e w h1 h2
        rw [e1] at h3
        cases h3
        exact e2
      · cases h
  · unfold ownB at h
    split at h
    · rename_i u e; cases h; exact a.bm p _ e
    · split at h
      · rename_i z
        obtain ⟨i, e, w, h1, h2, h3⟩ := z
        obtain ⟨q, o', e1, e2, e3, e4, e5⟩ := a.own i e w h1 h2
        rw [e1] at h3
        cases h3
        rw [h] at e4
        cases e4
        exact e5.mu
      · cases h
  · refine a.mv l g.le (up.trans g.fr) (fun p o h => g.dj p o (up p o h)) (fun i e w p h1 h2 h3 => ?_) g.tb g.nt
    obtain ⟨z1, o, z2⟩ := own i e w p h1 h2 h3
    rw [z2] at z1
    exact ⟨g.dj p o z1, by rw [g.fr p o z1, z2]⟩
/-- what a def's answer must lead to -/
def PoF (G : Wo) (B F : Hp) (E : XK) (Q : VK) : Rf → Prop
  | .ok w => ∀ v F' H', Le F F' → Gh G B F' H' → Rv G F' w v → Q v H'
  | .exc x => ∀ c d F' H', Le F F' → Gh G B F' H' → Rx G F' x c d → E c d H'
  | .bad => False
/-- a def's promise by its meaning -/
def spF (G : Wo) (f : Fn) (n : Nat) : Sp := fun vs H Q E => ∃ (ws : List W) (B F : Hp), ws.length = n ∧ Gh G B F H ∧ Rvs G F ws vs ∧ PoF G B F E Q (f ws)
/-- a def's promise, where nothing is being shown -/
structure FnG (P : Program) (w : World) (K : PySem.W.Frag) (mg : Str → Option Value) (base : Heap) (CX : CXT) (k : Nat) (f : Addr) (fd : FuncData) (ps : List Str) (sp : Sp) : Prop where
  len : ∀ vs H Q E, sp vs H Q E → vs.length = ps.length
  run : ∀ (A : Around) (outer : List Env) (s : Shared) (H : Hp) (args : Args) (us : List Value) (vs : List V) (Q : VK) (E : XK), Room k A → A.guards = some [] → Env0 P w K mg base A outer s H → BindsTo s fd args (ps.zip us) →
    Vals vs us → sp vs H Q E → codeAny (model P w) A (.call (.ref f) args) (CR CX outer P w H s Q E) s
theorem FnG.mono {P : Program} {w : World} {K : PySem.W.Frag} {mg : Str → Option Value} {base : Heap} {CX : CXT} {j k : Nat} {f : Addr} {fd : FuncData} {ps : List Str} {sp : Sp} (F : FnG P w K mg base CX j f fd ps sp) (h : j ≤ k) : FnG P w K mg base CX k f fd ps sp :=
  ⟨F.len, fun A outer s H args us vs Q E hr => F.run A outer s H args us vs Q E (hr.mono h)⟩
theorem FnG.imp {P : Program} {w : World} {K : PySem.W.Frag} {mg : Str → Option Value} {base : Heap} {CX : CXT} {k : Nat} {f : Addr} {fd : FuncData} {ps : List Str} {sp sp' : Sp} (F : FnG P w K mg base CX k f fd ps sp) (h : ∀ vs H Q E, sp' vs H Q E → sp vs H Q E) :
    FnG P w K mg base CX k f fd ps sp' :=
  ⟨fun vs H Q E q => F.len vs H Q E (h _ _ _ _ q), fun A outer s H args us vs Q E hr g e0 hb hv q => F.run A outer s H args us vs Q E hr g e0 hb hv (h _ _ _ _ q)⟩
section
variable {X : Cx} {CX : CXT} {k : Nat} {f : Addr} {fd : FuncData} {ps : List Str} {sp : Sp} {E : L2.St → XK} {x : Str} {p pos : Pos} {e : Expr} {es : List Expr} {t : TA}
theorem run_G {pins : List (Addr × Obj)} {σ : L2.St} {H : Hp} {s : Shared} {Q : VK} {us : List Value} {vs : List V} (F : FnG X.prog X.w X.K X.mg X.base CX k f fd ps sp) (hr : Room k X.A) (gd : X.A.guards = some []) (hb : Binds X.K fd ps []) (hx : PassesAt CX X σ (E σ))
    (I : Inv X pins σ H s) (r : Vals vs us) (h : sp vs H Q (E σ)) : wpAny (model X.prog X.w) X.A (call (.ref f) us) (EP X pins σ Q) X.xe s := by
  have hl : us.length = ps.length := r.length.symm.trans (F.len _ _ _ _ h)
  have b := hb s us I.kIn (by simpa using hl)
  rw [List.append_nil] at b
  refine wpAny_call (codeAny_mono (F.run X.A X.stack s H ⟨us, []⟩ us vs Q (E σ) hr gd I.env0 b r h) fun y s' hq => ?_)
  rcases y with er | fl
  · exact hx pins H s er s' I hq
  cases fl
  case ret u => exact I.after hq
  all_goals exact False.elim hq
theorem pe_G (F : FnG X.prog X.w X.K X.mg X.base CX k f fd ps sp) (hr : Room k X.A) (gd : X.A.guards = some []) (hg : Gl X x) (hm : X.mg x = some (.ref f)) (hk : PySem.W.keepIn X.K (.ref f) = true) (hb : Binds X.K fd ps []) (hx : ∀ σ, PassesAt CX X σ (E σ)) (ha : PA X (e :: es) t)
    (hdb : (x == ("__debug__" : Str)) = false := by decide) (he : starEach (e :: es) X.env = (false, eval e X.env) :: starEach es X.env := by rfl) (hpl : (backTo pos (starEach es X.env)).any (·.1) = false := by rfl) :
    PE X (.Call (.Name x p) (e :: es) [] pos) (tCallS sp E t) := by
  constructor
  intro pins s σ H Q I h
  refine wpAny_Call_Name_kw (ld_glob I hg hm ?_ hdb)
  refine PySem.W.callWith_K (h₀ := X.base) I.ok.mod.kin hk (thn (ha.run pos pins s σ H _ I h) fun us s1 ⟨vs, H1, I1, r, q⟩ => ⟨I1.kIn, ?_⟩) he hpl
  exact run_G F hr gd hb (hx σ) I1 r q
theorem pe_G0 (F : FnG X.prog X.w X.K X.mg X.base CX k f fd ps sp) (hr : Room k X.A) (gd : X.A.guards = some []) (hg : Gl X x) (hm : X.mg x = some (.ref f)) (hk : PySem.W.keepIn X.K (.ref f) = true) (hb : Binds X.K fd ps []) (hx : ∀ σ, PassesAt CX X σ (E σ))
    (hdb : (x == ("__debug__" : Str)) = false := by decide) : PE X (.Call (.Name x p) [] [] pos) (tCallS sp E tNil) := by
  constructor
  intro pins s σ H Q I h
  refine wpAny_Call_Name_kw (ld_glob I hg hm ?_ hdb)
  exact PySem.W.callWith_K0 I.kIn hk (run_G (us := []) F hr gd hb (hx σ) I .nil h)
end
structure DefOk (G : Wo) (lv : Nat) (x : Str) (n : Nat) (f : Fn) : Prop where
  ex : ∃ (fa : Addr) (fd : FuncData) (ps : List Str), ps.length = n ∧ FnG G.P G.w G.K G.mg G.base (L2.CX G.P G.w) lv fa fd ps (spF G f n) ∧ G.mg x = some (.ref fa) ∧ PySem.W.keepIn G.K (.ref fa) = true ∧ Binds G.K fd ps []
theorem DefOk.mono {G : Wo} {lv lv' n : Nat} {x : Str} {f : Fn} (d : DefOk G lv x n f) (h : lv ≤ lv') : DefOk G lv' x n f := by
  obtain ⟨fa, fd, ps, hl, F, hm, hk, hb⟩ := d.ex
  exact ⟨fa, fd, ps, hl, F.mono h, hm, hk, hb⟩
/-- the same meaning, said otherwise where it is not bad -/
theorem DefOk.cong {G : Wo} {lv n : Nat} {x : Str} {f f' : Fn} (d : DefOk G lv x n f) (h : ∀ ws, f' ws ≠ .bad → f ws = f' ws) : DefOk G lv x n f' := by
  obtain ⟨fa, fd, ps, hl, F, hm, hk, hb⟩ := d.ex
  refine ⟨fa, fd, ps, hl, F.imp fun vs H Q E ⟨ws, B, F, hn, g, rv, po⟩ => ⟨ws, B, F, hn, g, rv, ?_⟩, hm, hk, hb⟩
  rw [h ws (fun e => by rw [e] at po; exact po)]
  exact po
def Rf.rs (r : Rf) (e : En) : Rs W := match r with
  | .ok w => .ok w e
  | .exc x => .exc x e
  | .bad => .bad
def fCallN (n : Nat) (f : Fn) (g : FA) : FE := fun env => (g env).bind fun ws e1 => if ws.length = n then (f ws).rs e1 else .bad
def fCall (f : List W → Option W) (g : FA) : FE := fun env => (g env).bind fun ws e1 => ofO (f ws) e1
def CbOk (S : Ctx) (fv : Value) (f : List W → Option W) : Prop := ∀ (Wx : WX) B env F σ H ws vs z (Q : VK),
  At S B env F σ H → Rvs S.g F ws vs → f ws = some z → Nx S B env F σ Q z → ∃ r : List V → Hp → VK → Prop, (∀ X, S.Ok Wx X → CallR X fv r) ∧ r vs H Q
section
variable {S : Ctx} {pos p : Pos} {e : Expr} {es : List Expr} {g : FA} {f : List W → Option W} {x : Str}
def UC (S : Ctx) (W : WX) (fv : Value) : List V → Hp → VK → Prop := fun vs H Q => ∃ r : List V → Hp → VK → Prop, (∀ X, S.Ok W X → CallR X fv r) ∧ r vs H Q
theorem uc_c {W : WX} {X : Cx} {fv : Value} (ok : S.Ok W X) : CallR X fv (UC S W fv) := fun pins s σ H xs us Q I r ⟨q, h, z⟩ => h X ok pins s σ H xs us Q I r z
theorem gl_of {W : WX} {X : Cx} (ok : S.Ok W X) (hg : S.sc.names.lookup x = some .globalImplicit) : Gl X x := by
  show X.env.scope.names.lookup x = _
  rw [ok.sc]
  exact hg
theorem cb_rd {fv : Value} (hc : CbOk S fv f) (ha : RA S es g) {W : WX} {B : Fx} {env : En} {F : Hp} {σ : L2.St} {H : Hp} {Q : VK} (at_ : At S B env F σ H) (q : Po S B σ F (Rv S.g) (fun c d H' => W c d σ H') Q (fCall f g env)) :
    tCB (UC S W fv) (UA S W es) σ H Q := ha W B env F σ H _ at_ (Po.bnd q fun ws e1 vs F1 H1 _ l1 a1 r1 q1 => by
      obtain ⟨z, ez, n⟩ := q1.ofO
      exact hc W B e1 F1 σ H1 ws vs z Q a1 r1 ez n)
theorem re_cb {id : String} (hc : CbOk S (.builtin id) f) (hg : S.sc.names.lookup x = some .globalImplicit) (hm : S.g.mg x = none) (hb : bootBuiltins x = some (.builtin id)) (ha : RA S (e :: es) g)
    (hn : x ≠ "__name__" := by decide) (hd : (x == ("__debug__" : Str)) = false := by decide) (he : ∀ env : Env, starEach (e :: es) env = (false, eval e env) :: starEach es env := by intro _; rfl) (hpl : ∀ env : Env, (backTo pos (starEach es env)).any (·.1) = false := by intro _; rfl) :
    RE S (.Call (.Name x p) (e :: es) [] pos) (fCall f g) := fun W B env F σ H Q at_ q =>
  ⟨_, fun X ok => pe_callB (uc_c ok) (gl_of ok hg) (by rw [ok.mg]; exact hm) hb (ua_pa ok) hn hd (he _) (hpl _), cb_rd hc ha at_ q⟩
theorem re_ct {T : String} (hc : CbOk S (.type T) f) (hg : S.sc.names.lookup x = some .globalImplicit) (hm : S.g.mg x = none) (hb : bootBuiltins x = some (.type T)) (ha : RA S (e :: es) g)
    (hn : x ≠ "__name__" := by decide) (hd : (x == ("__debug__" : Str)) = false := by decide) (he : ∀ env : Env, starEach (e :: es) env = (false, eval e env) :: starEach es env := by intro _; rfl) (hpl : ∀ env : Env, (backTo pos (starEach es env)).any (·.1) = false := by intro _; rfl) :
    RE S (.Call (.Name x p) (e :: es) [] pos) (fCall f g) := fun W B env F σ H Q at_ q =>
  ⟨_, fun X ok => pe_callTy (uc_c ok) (gl_of ok hg) (by rw [ok.mg]; exact hm) hb (ua_pa ok) hn hd (he _) (hpl _), cb_rd hc ha at_ q⟩
theorem re_cf {id : String} (hc : CbOk S (.builtin id) f) (hg : S.sc.names.lookup x = some .globalImplicit) (hm : S.g.mg x = some (.builtin id)) (ha : RA S (e :: es) g)
    (hd : (x == ("__debug__" : Str)) = false := by decide) (he : ∀ env : Env, starEach (e :: es) env = (false, eval e env) :: starEach es env := by intro _; rfl) (hpl : ∀ env : Env, (backTo pos (starEach es env)).any (·.1) = false := by intro _; rfl) :
    RE S (.Call (.Name x p) (e :: es) [] pos) (fCall f g) := fun W B env F σ H Q at_ q =>
  ⟨_, fun X ok => pe_callBfun (uc_c ok) (gl_of ok hg) (by rw [ok.mg]; exact hm) (ua_pa ok) hd (he _) (hpl _), cb_rd hc ha at_ q⟩
theorem fng_of {W : WX} {X : Cx} (ok : S.Ok W X) {k : Nat} {fa : Addr} {fd : FuncData} {ps : List Str} {sp : Sp} (F : FnG S.g.P S.g.w S.g.K S.g.mg S.g.base (L2.CX S.g.P S.g.w) k fa fd ps sp) :
    FnG X.prog X.w X.K X.mg X.base (L2.CX X.prog X.w) k fa fd ps sp := by
  rw [ok.P, ok.w, ok.K, ok.mg, ok.base]
  exact F
theorem fnok_of {W : WX} {X : Cx} (ok : S.Ok W X) {k : Nat} {fa : Addr} {fd : FuncData} {ps : List Str} {sp : Sp} (F : FnOk S.g.P S.g.w S.g.K S.g.mg S.g.base (L2.CX S.g.P S.g.w) k fa fd ps sp) :
    FnOk X.prog X.w X.K X.mg X.base (L2.CX X.prog X.w) k fa fd ps sp := by
  rw [ok.P, ok.w, ok.K, ok.mg, ok.base]
  exact F
/-- what is raised by a callee -/
abbrev WE (W : WX) : L2.St → XK := fun σ c d H => W c d σ H
/-- a callee's promise out of a state -/
theorem sp_of {fn : Fn} {n : Nat} {B : Fx} {env : En} {F : Hp} {σ : L2.St} {H : Hp} {Q : VK} {Wd : XW} {ws : List W} {vs : List V} (a : At S B env F σ H) (r : Rvs S.g F ws vs) (hn : ws.length = n) (q : Po S B σ F (Rv S.g) Wd Q ((fn ws).rs env)) : spF S.g fn n vs H Q Wd := by
  obtain ⟨B', _, g, back⟩ := a.call
  refine ⟨ws, B', F, hn, g, r, ?_⟩
  cases e : fn ws with
  | ok w => rw [e] at q; exact fun v F' H' l g' rv => q v F' H' l (back F' H' l g') rv
  | exc x => rw [e] at q; exact fun c d F' H' l g' rx => q c d F' H' l (back F' H' l g') rx
  | bad => rw [e] at q; exact q
theorem re_call {n k : Nat} {fn : Fn} (hc : DefOk S.g k x n fn) (hk : k ≤ S.lv) (hg : S.sc.names.lookup x = some .globalImplicit) (ha : RA S (e :: es) g)
    (hd : (x == ("__debug__" : Str)) = false := by decide) (he : ∀ env : Env, starEach (e :: es) env = (false, eval e env) :: starEach es env := by intro _; rfl) (hpl : ∀ env : Env, (backTo pos (starEach es env)).any (·.1) = false := by intro _; rfl) :
    RE S (.Call (.Name x p) (e :: es) [] pos) (fCallN n fn g) := by
  intro W B env F σ H Q at_ q
  obtain ⟨fa, fd, ps, hl, Fg, hm, hkp, hb⟩ := hc.ex
  refine ⟨tCallS (spF S.g fn n) (WE W) (UA S W (e :: es)), fun X ok => ?_, ha W B env F σ H _ at_ (Po.bnd q fun ws e1 vs F1 H1 _ l1 a1 r1 q1 => ?_)⟩
  · exact pe_G (fng_of ok Fg) (ok.room.mono hk) ok.gd (gl_of ok hg) (by rw [ok.mg]; exact hm) (by rw [ok.K]; exact hkp) (by rw [ok.K]; exact hb) (fun σ => passAt ok.tk σ) (ua_pa ok) hd (he _) (hpl _)
  · split at q1
    · rename_i hn
      exact sp_of a1 r1 hn q1
    · exact q1.elim
theorem re_call0 {k : Nat} {fn : Fn} (hc : DefOk S.g k x 0 fn) (hk : k ≤ S.lv) (hg : S.sc.names.lookup x = some .globalImplicit) (hd : (x == ("__debug__" : Str)) = false := by decide) :
    RE S (.Call (.Name x p) [] [] pos) (fCallN 0 fn faNil) := by
  intro W B env F σ H Q at_ q
  obtain ⟨fa, fd, ps, hl, Fg, hm, hkp, hb⟩ := hc.ex
  refine ⟨tCallS (spF S.g fn 0) (WE W) tNil, fun X ok => ?_, sp_of (ws := []) at_ .nil rfl q⟩
  exact pe_G0 (fng_of ok Fg) (ok.room.mono hk) ok.gd (gl_of ok hg) (by rw [ok.mg]; exact hm) (by rw [ok.K]; exact hkp) (by rw [ok.K]; exact hb) (fun σ => passAt ok.tk σ) hd
end

/-! ### built-ins -/
def tyW (w : W) : Option String := match w with
  | .non => some "NoneType"
  | .bl _ => some "bool"
  | .int _ => some "int"
  | .str _ => some "str"
  | .tup _ => some "tuple"
  | .lst _ => some "list"
  | .dic _ => some "dict"
  | _ => none
def isaB (t n : String) : Bool := t == n || (t == "bool" && n == "int")
def knownTy : List String := ["int", "bool", "str", "tuple", "list", "dict"]
def fIsi (ws : List W) : Option W := match ws with
  | [x, .ty n] => match tyW x with
    | some t => if knownTy.contains n = true then some (.bl (isaB t n)) else none
    | none => none
  | _ => none
theorem isa_ok {K : PySem.W.Frag} {w : W} {t n : String} (h : tyW w = some t) (hn : knownTy.contains n = true) : PySem.W.kitOne K (.type t) (.type n) = some (isaB t n) := by
  have hn' : n ∈ knownTy := by simpa using hn
  have ht : t ∈ ["NoneType", "bool", "int", "str", "tuple", "list", "dict"] := by
    unfold tyW at h
    split at h <;> first | (cases h; decide) | cases h
  refine kit_ty ?_
  have all : ∀ t ∈ ["NoneType", "bool", "int", "str", "tuple", "list", "dict"], ∀ n ∈ knownTy, kitB t n = some (isaB t n) := by decide +kernel
  exact all t ht n hn'
/-- .. also of a locked dict whose keys are tuples -/
def TyZ (K : PySem.W.Frag) (H : Hp) (x : V) (t : Value) : Prop := TyX K H x t ∨ ∃ (a : Addr) (o : Obj) (kvs : List (List Key × V)), x = .ref a ∧ H a = some (.frz o (.dT kvs)) ∧ t = .type "dict"
theorem kit_ofZ {X : Cx} {pins : List (Addr × Obj)} {σ : L2.St} {H : Hp} {s : Shared} {x : V} {u t : Value} (I : Inv X pins σ H s) (rx : RelV x u) (ty : TyZ X.K H x t) : ∃ P : Heap → Prop, PySem.W.KitX X.K u t P ∧ P s.heap ∧ u ≠ .builtin "__main__.__loader__#opaque" := by
  rcases ty with ty | ⟨a, ob, kvs, rfl, ea, rfl⟩
  · exact kit_of I rx ty
  · cases (show u = Value.ref a from rx)
    obtain ⟨_, _, _, xs, _, o, es, ep, h1, h2, _⟩ := (show ObjOk X.prog X.w H s.heap a (.frz ob (.dT kvs)) from I.hok a _ ea)
    exact ⟨_, PySem.W.kitx_dict, ⟨o, h1, h2.1⟩, fun z => nomatch z⟩
def rIsiZ (K : PySem.W.Frag) : List V → Hp → VK → Prop := fun xs H Q => ∃ (x c : V) (t u : Value) (b : Bool), xs = [x, c] ∧ ClsV c u ∧ TyZ K H x t ∧ PySem.W.kitOne K t u = some b ∧ Q (.bl b) H
theorem call_isiZ {X : Cx} : CallR X (.builtin "isinstance") (rIsiZ X.K) := by
  intro pins s σ H xs us Q I r h
  obtain ⟨x, c, t, u, b, rfl, k, ty, e, q⟩ := h
  obtain ⟨u1, u2, rfl, r1, r2⟩ := vals2 r
  have e2 := k.eq r2
  subst e2
  obtain ⟨P, Z, p, hx⟩ := kit_ofZ I r1 ty
  exact PySem.W.kia_one Z I.kIn p e hx fun tk => ⟨.bl b, H, I.tok tk, rfl, q⟩
theorem ty_ok {G : Wo} {F H : Hp} (l : Le F H) {w : W} {v : V} {t : String} (rv : Rv G F w v) (h : tyW w = some t) : TyZ G.K H v (.type t) := by
  cases rv with
  | non => cases h; exact .inl (.base .non)
  | bl b => cases h; exact .inl (.base (.bl b))
  | int i => cases h; exact .inl (.base (.int i))
  | str x => cases h; exact .inl (.base (.str x))
  | tup q rs => cases h; exact .inl (.base (.tup (l _ _ q)))
  | lst q rs => cases h; exact .inl (.base (.lst (l _ _ q)))
  | dK q _ _ => cases h; exact .inl (.fDict (l _ _ q))
  | dT _ q _ _ => cases h; exact .inr ⟨_, _, _, rfl, l _ _ q, rfl⟩
  | _ => cases h
/-- len of a dict -/
def rLenD : List V → Hp → VK → Prop := fun xs H Q => ∃ (p : Addr) (n : Nat), xs = [.ref p] ∧ ((∃ kvs, Rd H p (.dK kvs) ∧ kvs.length = n) ∨ ∃ kvs, Rd H p (.dT kvs) ∧ kvs.length = n) ∧ Q (.int (n : Int)) H
theorem call_lenZ {X : Cx} : CallR X (.builtin "len") rLenD := by
  intro pins s σ H xs us Q I r h
  obtain ⟨p, n, rfl, hp, q⟩ := h
  obtain ⟨u, rfl, rx⟩ := vals1 r
  obtain rfl : u = .ref p := rx
  rcases hp with ⟨kvs, hp, rfl⟩ | ⟨kvs, hp, rfl⟩
  · exact d_len I hp fun t s' I' => ⟨.int kvs.length, H, I', ⟨t, rfl⟩, q⟩
  · obtain ⟨z, hd, ys, rel, dd⟩ := dt_rd I.hok hp
    have hl : kvs.length = ys.length := Paired.length rel
    refine call_len_dictH hd dd (by rw [← hl]; rw [sizeLine_eq] at z; omega) ?_
    rw [← hl]
    exact ⟨.int ((kvs.length : Nat) : Int), H, I.tok _, ⟨_, rfl⟩, q⟩
def lsW : W → Option (List W)
  | .lst ws => some ws
  | .rol ws => some ws
  | _ => none
theorem lsW_rv {G : Wo} {F H : Hp} {w : W} {v : V} {ws : List W} (l : Le F H) (rv : Rv G F w v) (e : lsW w = some ws) : ∃ (a : Addr) (vs : List V), v = .ref a ∧ SqL G.K H a vs ∧ Rvs G F ws vs := by
  cases rv with
  | lst h q => cases e; exact ⟨_, _, rfl, .of (l _ _ h), q⟩
  | rol h q => cases e; exact ⟨_, _, rfl, SqL.le l h, q⟩
  | _ => cases e
section
variable {S : Ctx}
theorem c_isi : CbOk S (.builtin "isinstance") fIsi := by
  intro Wx B env F σ H ws vs z Q a rv q n
  unfold fIsi at q
  split at q
  · split at q
    · rename_i t e1
      split at q
      · rename_i hn
        cases q
        cases rv with
        | cons r1 rv =>
          cases rv with
          | cons r2 rv =>
            cases rv
            cases r2
            exact ⟨rIsiZ S.g.K, fun X ok => by have z := @call_isiZ X; rw [ok.K] at z; exact z, _, _, _, _, _, rfl, .ty _, ty_ok a.le r1 e1, isa_ok e1 hn, nx_here n a (.bl _)⟩
      · cases q
    · cases q
  · cases q
def fAbs (ws : List W) : Option W := match ws with
  | [.int i] => some (.int (if i < 0 then -i else i))
  | _ => none
theorem c_abs : CbOk S (.builtin "abs") fAbs := by
  intro Wx B env F σ H ws vs z Q a rv q n
  unfold fAbs at q
  split at q
  · cases q
    cases rv with
    | cons r1 rv =>
      cases rv
      cases r1
      exact ⟨_, fun X ok => call_abs, _, rfl, nx_here n a (.int _)⟩
  · cases q
def fLen (ws : List W) : Option W := match ws with
  | [.str x] => if x.length ≤ sizeLine then some (.int (x.length : Int)) else none
  | [.tup xs] => some (.int (xs.length : Int))
  | [.lst xs] => some (.int (xs.length : Int))
  | [.rol xs] => some (.int (xs.length : Int))
  | [.dic xs] => some (.int (xs.length : Int))
  | _ => none
theorem c_len : CbOk S (.builtin "len") fLen := by
  intro Wx B env F σ H ws vs z Q a rv q n
  have go : ∀ {v : V} {m : Nat}, vs = [v] → LenV S.g.K v H m → Q (.int (m : Int)) H → ∃ r : List V → Hp → VK → Prop, (∀ X, S.Ok Wx X → CallR X (.builtin "len") r) ∧ r vs H Q := fun {v m} e l z =>
    ⟨fun xs H Q => ∃ x n, xs = [x] ∧ LenV S.g.K x H n ∧ Q (.int (n : Int)) H, fun X ok => by have z := @call_len X; rw [ok.K] at z; exact z, v, m, e, l, z⟩
  unfold fLen at q
  split at q
  · split at q
    · rename_i hl
      cases q
      cases rv with
      | cons r1 rv => cases rv; cases r1; exact go rfl ⟨hl, rfl⟩ (nx_here n a (.int _))
    · cases q
  · cases q
    cases rv with
    | cons r1 rv =>
      cases rv
      cases r1 with
      | tup h rs => exact go rfl (.inr ⟨_, .of (a.le _ _ h), rs.length.symm⟩) (nx_here n a (.int _))
  · cases q
    cases rv with
    | cons r1 rv =>
      cases rv
      cases r1 with
      | lst h rs => exact go rfl (.inl ⟨_, .of (a.le _ _ h), rs.length.symm⟩) (nx_here n a (.int _))
  · cases q
    cases rv with
    | cons r1 rv =>
      cases rv
      cases r1 with
      | rol h rs => exact go rfl (.inl ⟨_, SqL.le a.le h, rs.length.symm⟩) (nx_here n a (.int _))
  · cases q
    cases rv with
    | cons r1 rv =>
      cases rv
      cases r1 with
      | dK h e rs => exact ⟨rLenD, fun X ok => call_lenZ, _, _, rfl, .inl ⟨_, .inr ⟨_, a.le _ _ h⟩, by have := congrArg List.length e; simpa using this.symm⟩, nx_here n a (.int _)⟩
      | dT _ h e rs => exact ⟨rLenD, fun X ok => call_lenZ, _, _, rfl, .inr ⟨_, .inr ⟨_, a.le _ _ h⟩, by have := congrArg List.length e; simpa using this.symm⟩, nx_here n a (.int _)⟩
  · cases q
def fInt (ws : List W) : Option W := match ws with
  | [.int i] => some (.int i)
  | [.bl k] => some (.int (if k = true then 1 else 0))
  | [.str x] => match intText? x with
    | some n => if x.length ≤ 640 then some (.int n) else none
    | none => none
  | _ => none
theorem c_int : CbOk S (.type "int") fInt := by
  intro Wx B env F σ H ws vs z Q a rv q n
  unfold fInt at q
  split at q
  · cases q
    cases rv with
    | cons r1 rv => cases rv; cases r1; exact ⟨_, fun X ok => call_int1, .inl ⟨_, rfl, nx_here n a (.int _)⟩⟩
  · cases q
    cases rv with
    | cons r1 rv => cases rv; cases r1; exact ⟨_, fun X ok => call_int1, .inr ⟨_, rfl, nx_here n a (.int _)⟩⟩
  · split at q
    · rename_i m e1
      split at q
      · rename_i hl
        cases q
        cases rv with
        | cons r1 rv => cases rv; cases r1; exact ⟨_, fun X ok => call_int_str, _, m, rfl, e1, hl, nx_here n a (.int _)⟩
      · cases q
    · cases q
  · cases q
def fStr (ws : List W) : Option W := match ws with
  | [.int i] => if i.natAbs.log2 < 1920 then some (.str (Str.ofString (toString i))) else none
  | _ => none
theorem c_str : CbOk S (.type "str") fStr := by
  intro Wx B env F σ H ws vs z Q a rv q n
  unfold fStr at q
  split at q
  · split at q
    · rename_i hl
      cases q
      cases rv with
      | cons r1 rv => cases rv; cases r1; exact ⟨_, fun X ok => call_str_int, _, rfl, hl, nx_here n a (.str _)⟩
    · cases q
  · cases q
def fGcd (ws : List W) : Option W := match ws with
  | [.int i, .int j] => some (.int ((Nat.gcd i.natAbs j.natAbs : Nat) : Int))
  | _ => none
theorem c_gcd : CbOk S (.builtin "math.gcd") fGcd := by
  intro Wx B env F σ H ws vs z Q a rv q n
  unfold fGcd at q
  split at q
  · cases q
    cases rv with
    | cons r1 rv =>
      cases rv with
      | cons r2 rv => cases rv; cases r1; cases r2; exact ⟨_, fun X ok => cr_gcd, _, _, rfl, nx_here n a (.int _)⟩
  · cases q
/-- the truth values of a list -/
def bls : List W → Option (List Bool)
  | [] => some []
  | .bl b :: ws => match bls ws with
    | some bs => some (b :: bs)
    | none => none
  | _ => none
theorem bls_rv {G : Wo} {F : Hp} : ∀ {ws : List W} {vs : List V} {bs : List Bool}, Rvs G F ws vs → bls ws = some bs → vs = bs.map V.bl
  | [], _, _, .nil, e => by cases e; rfl
  | .bl b :: ws, _, bs, .cons (.bl _) r, e => by
    simp only [bls] at e
    split at e
    · rename_i cs ec
      cases e
      rw [bls_rv r ec]
      rfl
    · cases e
def blsOf (w : W) : Option (List Bool) := match lsW w with
  | some ws => bls ws
  | none => none
theorem blsOf_rv {G : Wo} {F H : Hp} (l : Le F H) {w : W} {v : V} {bs : List Bool} (r : Rv G F w v) (e : blsOf w = some bs) : ∃ a, v = .ref a ∧ SqL G.K H a (bs.map V.bl) := by
  unfold blsOf at e
  split at e
  · rename_i ws ew
    obtain ⟨a, vs, e1, e2, e3⟩ := lsW_rv l r ew
    rw [bls_rv e3 e] at e2
    exact ⟨a, e1, e2⟩
  · cases e
def fAll (ws : List W) : Option W := match ws with
  | [w] => match blsOf w with
    | some bs => some (.bl (bs.all id))
    | none => none
  | _ => none
theorem c_all : CbOk S (.builtin "all") fAll := by
  intro Wx B env F σ H ws vs z Q a rv q n
  unfold fAll at q
  split at q
  · split at q
    · rename_i bs e
      cases q
      cases rv with
      | cons r1 rv =>
        cases rv
        obtain ⟨p, ep, sq⟩ := blsOf_rv a.le r1 e
        exact ⟨rAll S.g.K, fun X ok => by have z := @cr_all X ok.calm; rw [ok.K] at z; exact z, _, _, by rw [ep], sq, nx_here n a (.bl _)⟩
    · cases q
  · cases q
def fAny (ws : List W) : Option W := match ws with
  | [w] => match blsOf w with
    | some bs => some (.bl (bs.any id))
    | none => none
  | _ => none
theorem c_any : CbOk S (.builtin "any") fAny := by
  intro Wx B env F σ H ws vs z Q a rv q n
  unfold fAny at q
  split at q
  · split at q
    · rename_i bs e
      cases q
      cases rv with
      | cons r1 rv =>
        cases rv
        obtain ⟨p, ep, sq⟩ := blsOf_rv a.le r1 e
        exact ⟨rAny S.g.K, fun X ok => by have z := @cr_any X ok.calm; rw [ok.K] at z; exact z, _, _, by rw [ep], sq, nx_here n a (.bl _)⟩
    · cases q
  · cases q
def intsOf (w : W) : Option (List Int) := match lsW w with
  | some ws => intsW ws
  | none => none
theorem intsOf_rv {G : Wo} {F H : Hp} (l : Le F H) {w : W} {v : V} {is : List Int} (r : Rv G F w v) (e : intsOf w = some is) : ∃ a, v = .ref a ∧ SqL G.K H a (is.map V.int) := by
  unfold intsOf at e
  split at e
  · rename_i ws ew
    obtain ⟨a, vs, e1, e2, e3⟩ := lsW_rv l r ew
    rw [ints_rv e3 e] at e2
    exact ⟨a, e1, e2⟩
  · cases e
def fSum (ws : List W) : Option W := match ws with
  | [w] => match intsOf w with
    | some is => some (.int is.sum)
    | none => none
  | _ => none
theorem c_sum : CbOk S (.builtin "sum") fSum := by
  intro Wx B env F σ H ws vs z Q a rv q n
  unfold fSum at q
  split at q
  · split at q
    · rename_i is e
      cases q
      cases rv with
      | cons r1 rv =>
        cases rv
        obtain ⟨p, ep, sq⟩ := intsOf_rv a.le r1 e
        exact ⟨rSum S.g.K, fun X ok => by have z := @cr_sum X ok.calm; rw [ok.K] at z; exact z, p, is, by rw [ep], sq, nx_here n a (.int _)⟩
    · cases q
  · cases q
/-- min of two, or of a list -/
def fMinA (ws : List W) : Option W := match ws with
  | [.int i, .int j] => some (.int (if j < i then j else i))
  | [w] => match intsOf w with
    | some is => is.min?.map .int
    | none => none
  | _ => none
theorem c_minA : CbOk S (.builtin "min") fMinA := by
  intro Wx B env F σ H ws vs z Q a rv q n
  unfold fMinA at q
  split at q
  · cases q
    cases rv with
    | cons r1 rv =>
      cases rv with
      | cons r2 rv => cases rv; cases r1; cases r2; exact ⟨_, fun X ok => call_min2 ok.calm, _, _, rfl, nx_here n a (.int _)⟩
  · split at q
    · rename_i is e
      rw [Option.map_eq_some_iff] at q
      obtain ⟨m, em, rfl⟩ := q
      cases rv with
      | cons r1 rv =>
        cases rv
        obtain ⟨p, ep, sq⟩ := intsOf_rv a.le r1 e
        obtain ⟨m1, m2⟩ := List.min?_eq_some_iff.mp em
        refine ⟨rMin S.g.K, fun X ok => (by have z := @cr_min X ok.calm; rw [ok.K] at z; exact z), p, is, (by rw [ep]), sq, List.length_pos_of_mem m1, fun k hk hall => ?_⟩
        have : k = m := Int.le_antisymm (hall m m1) (m2 k hk)
        rw [this]
        exact nx_here n a (.int _)
    · cases q
  · cases q
def fMaxA (ws : List W) : Option W := match ws with
  | [.int i, .int j] => some (.int (if j > i then j else i))
  | [w] => match intsOf w with
    | some is => is.max?.map .int
    | none => none
  | _ => none
theorem c_maxA : CbOk S (.builtin "max") fMaxA := by
  intro Wx B env F σ H ws vs z Q a rv q n
  unfold fMaxA at q
  split at q
  · cases q
    cases rv with
    | cons r1 rv =>
      cases rv with
      | cons r2 rv => cases rv; cases r1; cases r2; exact ⟨_, fun X ok => call_max2 ok.calm, _, _, rfl, nx_here n a (.int _)⟩
  · split at q
    · rename_i is e
      rw [Option.map_eq_some_iff] at q
      obtain ⟨m, em, rfl⟩ := q
      cases rv with
      | cons r1 rv =>
        cases rv
        obtain ⟨p, ep, sq⟩ := intsOf_rv a.le r1 e
        obtain ⟨m1, m2⟩ := List.max?_eq_some_iff.mp em
        refine ⟨rMax S.g.K, fun X ok => (by have z := @cr_max X ok.calm; rw [ok.K] at z; exact z), p, is, (by rw [ep]), sq, List.length_pos_of_mem m1, fun k hk hall => ?_⟩
        have : k = m := Int.le_antisymm (m2 k hk) (hall m m1)
        rw [this]
        exact nx_here n a (.int _)
    · cases q
  · cases q
/-- tuple(x) of a list or a tuple -/
def fTupleOf (ws : List W) : Option W := match ws with
  | [.tup xs] => some (.tup xs)
  | [.lst xs] => some (.tup xs)
  | _ => none
def rTupOf (K : PySem.W.Frag) : List V → Hp → VK → Prop := fun xs H Q => ∃ p ys, xs = [.ref p] ∧ ((SqL K H p ys ∧ ∀ l, H l = none → Q (.ref l) (upd H l (.tup ys))) ∨ (SqT K H p ys ∧ Q (.ref p) H))
theorem c_tupleOf : CbOk S (.type "tuple") fTupleOf := by
  intro Wx B env F σ H ws vs z Q a rv q n
  unfold fTupleOf at q
  split at q
  · cases q
    cases rv with
    | cons h t =>
      cases t
      have h0 := h
      cases h with
      | tup hs hr => exact ⟨rTupOf S.g.K, fun X ok => by have z := @call_tuple_of X; rw [ok.K] at z; exact z, _, _, rfl, .inr ⟨.of (a.le _ _ hs), nx_here n a h0⟩⟩
  · cases q
    cases rv with
    | cons h t =>
      cases t
      cases h with
      | lst hs hr => exact ⟨rTupOf S.g.K, fun X ok => by have z := @call_tuple_of X; rw [ok.K] at z; exact z, _, _, rfl, .inl ⟨.of (a.le _ _ hs), fun l hl => nx_tup n a hr hl⟩⟩
  · cases q
/-- list(x) of a list or a tuple -/
def fListOf (ws : List W) : Option W := match ws with
  | [.tup xs] => some (.lst xs)
  | [.lst xs] => some (.lst xs)
  | _ => none
def rLstOf (K : PySem.W.Frag) : List V → Hp → VK → Prop := fun xs H Q => ∃ p ys, xs = [.ref p] ∧ (SqL K H p ys ∨ SqT K H p ys) ∧ ∀ l, H l = none → Q (.ref l) (upd H l (.lst ys))
theorem c_listOf : CbOk S (.type "list") fListOf := by
  intro Wx B env F σ H ws vs z Q a rv q n
  unfold fListOf at q
  split at q
  · cases q
    cases rv with
    | cons h t =>
      cases t
      cases h with
      | tup hs hr => exact ⟨rLstOf S.g.K, fun X ok => by have z := @call_list_of X; rw [ok.K] at z; exact z, _, _, rfl, .inr (.of (a.le _ _ hs)), fun p hp => nx_lst n a hr hp⟩
  · cases q
    cases rv with
    | cons h t =>
      cases t
      cases h with
      | lst hs hr => exact ⟨rLstOf S.g.K, fun X ok => by have z := @call_list_of X; rw [ok.K] at z; exact z, _, _, rfl, .inl (.of (a.le _ _ hs)), fun p hp => nx_lst n a hr hp⟩
  · cases q
def rLcm : List V → Hp → VK → Prop := fun vs H Q => ∃ a b : Int, vs = [.int a, .int b] ∧ a.natAbs < 2 ^ 64 ∧ b.natAbs < 2 ^ 64 ∧ Q (.int ((a.natAbs.lcm b.natAbs : Nat) : Int)) H
theorem cr_lcm {X : Cx} : CallR X (.builtin "math.lcm") rLcm := by
  intro pins s σ H vs us Q I r h
  obtain ⟨a, b, rfl, ha, hb, q⟩ := h
  obtain ⟨t, u, rfl⟩ := Vals.int2 r
  exact PySem.W.mc_lcm ha hb fun _ => ⟨.int _, H, I.tok _, ⟨_, rfl⟩, q⟩
def fLcm (ws : List W) : Option W := match ws with
  | [.int i, .int j] => if i.natAbs < 2 ^ 64 ∧ j.natAbs < 2 ^ 64 then some (.int ((i.natAbs.lcm j.natAbs : Nat) : Int)) else none
  | _ => none
theorem c_lcm : CbOk S (.builtin "math.lcm") fLcm := by
  intro Wx B env F σ H ws vs z Q a rv q n
  unfold fLcm at q
  split at q
  · split at q
    · rename_i c
      cases q
      cases rv with
      | cons r1 rv =>
        cases rv with
        | cons r2 rv => cases rv; cases r1; cases r2; exact ⟨_, fun X ok => cr_lcm, _, _, rfl, c.1, c.2, nx_here n a (.int _)⟩
    · cases q
  · cases q
end
end Pv
namespace Pv
open PySem L2

/-! ### targets -/
/-- other slots as they were -/
def Out (is : List Nat) (σ σ' : L2.St) : Prop := σ'.length = σ.length ∧ ∀ j : Nat, j ∉ is → σ'[j]? = σ[j]?
theorem Out.refl (is : List Nat) (σ : L2.St) : Out is σ σ := ⟨rfl, fun _ _ => rfl⟩
theorem Out.set {is : List Nat} {σ : L2.St} {i : Nat} {v : Option V} (h : i ∈ is) : Out is σ (σ.set i v) := ⟨by simp, fun j hj => List.getElem?_set_ne (fun e => hj (by rw [← e]; exact h))⟩
theorem Out.trans {is : List Nat} {σ σ1 σ2 : L2.St} (a : Out is σ σ1) (b : Out is σ1 σ2) : Out is σ σ2 := ⟨b.1.trans a.1, fun j hj => (b.2 j hj).trans (a.2 j hj)⟩
theorem Out.mono {is js : List Nat} {σ σ' : L2.St} (a : Out is σ σ') (h : ∀ i ∈ is, i ∈ js) : Out js σ σ' := ⟨a.1, fun j hj => a.2 j fun z => hj (h j z)⟩
/-- other names as they were -/
def OutE (is : List Nat) (env env' : En) : Prop := env'.length = env.length ∧ ∀ j : Nat, j ∉ is → env'[j]? = env[j]?
abbrev FG := W → En → Option En
/-- a target that changes names alone, those in the slots is -/
def RG (S : Ctx) (tg : Expr) (is : List Nat) (g : FG) : Prop := ∀ (Wx : WX) w v B env env' F σ H (Q : L2.St → Hp → Prop), At S B env F σ H → Rv S.g F w v → g w env = some env' →
  (∀ σ', At S B env' F σ' H → Out is σ σ' → Q σ' H) → ∃ t, (∀ X, S.Ok Wx X → PG X tg t) ∧ t v σ H Q
def UG (S : Ctx) (Wx : WX) (tg : Expr) : TG := fun v σ H Q => ∃ t, (∀ X, S.Ok Wx X → PG X tg t) ∧ t v σ H Q
theorem ug_pg {S : Ctx} {Wx : WX} {X : Cx} {tg : Expr} (ok : S.Ok Wx X) : PG X tg (UG S Wx tg) := ⟨fun pins s σ H v u Q I r ⟨t, h, q⟩ => (h X ok).run pins s σ H v u Q I r q⟩
def gN (i : Nat) : FG := fun w env => some (env.set i (some (.v w)))
/-- a name that a block stores -/
structure Sto (S : Ctx) (i : Nat) (x : Str) : Prop where
  n : S.N[i]? = some x
  l : Loc S.sc x
  f : S.fa = true ∨ S.sc.names.lookup x = some .local ∨ S.ow x = true
theorem Sto.fn {S : Ctx} {i : Nat} {x : Str} (s : Sto S i x) {Wx : WX} {X : Cx} (ok : S.Ok Wx X) : X.fn x = true ∨ X.env.scope.names.lookup x = some .local := by
  rcases s.f with h | h | h
  · exact .inl (ok.fa h x)
  · exact .inr (by rw [ok.sc]; exact h)
  · exact .inl (ok.ow x h)
section
variable {S : Ctx} {pos p : Pos}
theorem rg_n {i : Nat} {x : Str} (s : Sto S i x) : RG S (.Name x p) [i] (gN i) := fun Wx w v B env env' F σ H Q at_ r e h => by
  cases e
  exact ⟨gName i, fun X ok => pg_name ok.nodup (by rw [ok.N]; exact s.n) (by rw [ok.sc]; exact s.l) (s.fn ok), h _ (at_.set r i) (.set (by simp))⟩
/-- several names -/
def gNs : List Nat → List W → En → Option En
  | [], [], env => some env
  | i :: is, w :: ws, env => gNs is ws (env.set i (some (.v w)))
  | _, _, _ => none
def gT (is : List Nat) : FG := fun w env => match w with
  | .tup ws => gNs is ws env
  | _ => none
inductive Stos (S : Ctx) : List Nat → List Expr → Prop
  | nil : Stos S [] []
  | cons {i : Nat} {x : Str} {q : Pos} {is : List Nat} {es : List Expr} (s : Sto S i x) (r : Stos S is es) : Stos S (i :: is) (.Name x q :: es)
theorem gNs_len : ∀ {is : List Nat} {ws : List W} {env env' : En}, gNs is ws env = some env' → ws.length = is.length
  | [], [], _, _, _ => rfl
  | i :: is, w :: ws, env, env', h => by simp [gNs_len (is := is) (ws := ws) h]
  | [], _ :: _, _, _, h => by simp [gNs] at h
  | _ :: _, [], _, _, h => by simp [gNs] at h
theorem stos_names {is : List Nat} {es : List Expr} (s : Stos S is es) (env : Env) : (assignEach es env).map (·.1) = es.map (fun _ => false) ∧ (assignEach es env).map (·.2) = es.map (fun e => assign e env) := by
  induction s with
  | nil => exact ⟨rfl, rfl⟩
  | cons s r ih => exact ⟨by show false :: _ = false :: _; rw [← ih.1], by show assign _ env :: _ = assign _ env :: _; rw [← ih.2]⟩
theorem stos_len {is : List Nat} {es : List Expr} (s : Stos S is es) : es.length = is.length := by
  induction s with
  | nil => rfl
  | cons _ _ ih => simp [ih]
theorem stos_pgs {Wx : WX} {is : List Nat} {es : List Expr} (s : Stos S is es) : ∀ {ws : List W} {vs : List V} {B : Fx} {env env' : En} {F : Hp} {σ : L2.St} {H : Hp} {Q : L2.St → Hp → Prop},
    At S B env F σ H → Rvs S.g F ws vs → gNs is ws env = some env' → (∀ σ', At S B env' F σ' H → Out is σ σ' → Q σ' H) → ∃ t, (∀ X, S.Ok Wx X → PGs X es t) ∧ t vs σ H Q := by
  induction s with
  | nil =>
    intro ws vs B env env' F σ H Q at_ r e h
    cases r with
    | nil => cases e; exact ⟨gNil, fun X ok => pgs_nil, rfl, h _ at_ (.refl _ _)⟩
    | cons a b => simp [gNs] at e
  | @cons i x q is es s r ih =>
    intro ws vs B env env' F σ H Q at_ rv e h
    cases rv with
    | nil => simp [gNs] at e
    | @cons w v ws vs a b =>
      obtain ⟨t, h1, h2⟩ := ih (at_.set a i) b e fun σ' rn o => h σ' rn (.trans (.set List.mem_cons_self) (o.mono fun j hj => List.mem_cons_of_mem _ hj))
      exact ⟨gCons (gName i) t, fun X ok => pgs_cons (pg_name ok.nodup (by rw [ok.N]; exact s.n) (by rw [ok.sc]; exact s.l) (s.fn ok)) (h1 X ok), v, vs, rfl, h2⟩
theorem rg_t {is : List Nat} {es : List Expr} {k : Nat} (s : Stos S is es) : RG S (.Tuple es k p) is (gT is) := fun Wx w v B env env' F σ H Q at_ r e h => by
  unfold gT at e
  split at e
  · cases r with
    | tup hq rs =>
      obtain ⟨t, h1, h2⟩ := stos_pgs (Wx := Wx) s at_ rs e h
      have nm := stos_names s
      refine ⟨gTup S.g.K is.length t, fun X ok => ?_, _, _, rfl, .of (at_.le _ _ hq), by rw [rs.length]; exact gNs_len e, h2⟩
      have hl : (assignEach es X.env).length = is.length := by
        have z := congrArg List.length (nm X.env).1
        rw [List.length_map, List.length_map] at z
        rw [z]
        exact stos_len s
      have hf : (assignEach es X.env).findIdx? (·.1) = none := by
        rw [List.findIdx?_eq_none_iff]
        intro y hy
        have z : y.1 ∈ (assignEach es X.env).map (·.1) := List.mem_map_of_mem hy
        rw [(nm X.env).1] at z
        obtain ⟨_, _, q⟩ := List.mem_map.mp z
        exact q.symm
      have z := pg_tup (pos := p) (k := k) (n := is.length) ok.calm (h1 X ok) hl hf
      rw [ok.K] at z
      exact z
  · cases e

/-! ### statements -/
def ofG (r : Option En) : SR := match r with
  | some e => .nx e
  | none => .bad
def sSet (g : FG) (f : FE) : FS := fun env => (f env).thn fun w e1 => ofG (g w e1)
/-- x = e, where e makes a thing that x alone has from then on -/
def sOwn (i : Nat) (f : FE) : FS := fun env => (f env).thn fun w e1 => .nx (e1.set i (some (.o w)))
def sSeq (f g : FS) : FS := fun env => match f env with
  | .nx e => g e
  | r => r
def sNil : FS := fun env => .nx env
def sDrop (f : FE) : FS := fun env => (f env).thn fun _ e1 => .nx e1
def sRet (f : FE) : FS := fun env => (f env).thn fun w e1 => .ret w e1
def sRetO (f : FE) : FS := fun env => (f env).thn fun w e1 => .own w e1
def sRetN : FS := fun env => .ret .non env
def sIf (t : FT) (f g : FS) : FS := fun env => (t env).thn fun b e1 => match b with
  | true => f e1
  | false => g e1
def sNever : FS := fun _ => .bad
theorem rs_never {s : Stmt} : RS S s sNever := fun W B env F σ H D at_ h => False.elim h
theorem rb_never {s : List Stmt} : RB S s sNever := fun W B env F σ H D at_ h => False.elim h
theorem rb_nil : RB S [] sNil := fun W B env F σ H D at_ h => ⟨tNext, fun X ok => pss_nil, h F σ H (.refl F) at_⟩
theorem rb_cons {s : Stmt} {ss : List Stmt} {f g : FS} (ha : RS S s f) (hb : RB S ss g) : RB S (s :: ss) (sSeq f g) := by
  intro W B env F σ H D at_ h
  refine ⟨tSeq (US S W s) (UB S W ss), fun X ok => pss_cons (us_ps ok) (ub_pss ok), ha W B env F σ H _ at_ ?_⟩
  unfold sSeq at h
  cases e : f env with
  | nx e1 =>
    rw [e] at h
    exact fun F' σ' H' l a => hb W B e1 F' σ' H' D a (PoS.at_ l h)
  | ret w e1 => rw [e] at h; exact h
  | own w e1 => rw [e] at h; exact h
  | brk e1 => rw [e] at h; exact h
  | cnt e1 => rw [e] at h; exact h
  | exc x e1 => rw [e] at h; exact h
  | bad => rw [e] at h; exact h
theorem rb_one {s : Stmt} {f : FS} (ha : RS S s f) : RB S [s] f := fun W B env F σ H D at_ h => ⟨US S W s, fun X ok => pss_one (us_ps ok), ha W B env F σ H D at_ h⟩
/-- x = e -/
theorem rs_set {i : Nat} {x : Str} {e : Expr} {f : FE} (s : Sto S i x) (ha : RE S e f) (hs : ∀ env : Env, env.scope = S.sc → swapsWith e (some (.Name x p)) pos.line env = pure false := by intro _ _; rfl) : RS S (.Assign [.Name x p] e pos) (sSet (gN i) f) := by
  intro W B env F σ H D at_ h
  refine ⟨tAsg (UE S W e) (gName i), fun X ok => ps_set ok.nodup (by rw [ok.N]; exact s.n) (by rw [ok.sc]; exact s.l) (ue_pe ok) (hs _ ok.sc) (s.fn ok), ha W B env F σ H _ at_ (Po.stm h fun w e1 v F1 H1 _ l1 a1 r1 q1 => ?_)⟩
  exact q1 F1 _ H1 (.refl _) (a1.set r1 i)
theorem rs_own {i : Nat} {x : Str} {e : Expr} {f : FE} (s : Sto S i x) (ha : RF S e f) (hs : ∀ env : Env, env.scope = S.sc → swapsWith e (some (.Name x p)) pos.line env = pure false := by intro _ _; rfl) : RS S (.Assign [.Name x p] e pos) (sOwn i f) := by
  intro W B env F σ H D at_ h
  refine ⟨tAsg (UE S W e) (gName i), fun X ok => ps_set ok.nodup (by rw [ok.N]; exact s.n) (by rw [ok.sc]; exact s.l) (ue_pe ok) (hs _ ok.sc) (s.fn ok), ha W B env F σ H _ at_ (PoO.stm h fun w e1 p o F1 H1 _ l1 a1 f1 f2 f3 f4 rc q1 => ?_)⟩
  exact q1 F1 _ H1 (.refl _) (a1.setO i f1 f2 f3 f4 rc)
/-- any target of names = e -/
theorem rs_asg {tg e : Expr} {f : FE} {is : List Nat} {g : FG} (hg : RG S tg is g) (ha : RE S e f) (hs : ∀ env : Env, env.scope = S.sc → swapsWithSole [tg] e pos.line env = pure false := by intro _ _; rfl) (hw : ∀ env : Env, env.scope = S.sc → swappedStores [tg] e env = pure none := by intro _ _; rfl)
    (h1 : ∀ env : Env, (assignEach [tg] env).map (·.2) = [assign tg env] := by intro _; rfl) : RS S (.Assign [tg] e pos) (sSet g f) := by
  intro W B env F σ H D at_ h
  refine ⟨tAsg (UE S W e) (UG S W tg), fun X ok => ps_asg (ue_pe ok) (ug_pg ok) (hs _ ok.sc) (hw _ ok.sc) (h1 _), ha W B env F σ H _ at_ (Po.stm h fun w e1 v F1 H1 _ l1 a1 r1 q1 => ?_)⟩
  unfold ofG at q1
  split at q1
  · rename_i e2 he
    exact hg W w v B e1 e2 F1 σ H1 _ a1 r1 he fun σ' rn _ => q1 F1 σ' H1 (.refl _) rn
  · exact q1.elim
def sPar (i j : Nat) (g : FA) : FS := fun env => (g env).thn fun ws e1 => match ws with
  | [a, b] => .nx ((e1.set i (some (.v a))).set j (some (.v b)))
  | _ => .bad
theorem rs_par {i j : Nat} {x y : Str} {a b : Expr} {px py pt pt2 : Pos} {kt k2 : Nat} {g : FA} (hi : S.N[i]? = some x) (hj : S.N[j]? = some y) (hij : i ≠ j) (hx : S.sc.names.lookup x = some .local) (hy : S.sc.names.lookup y = some .local) (ha : RA S [a, b] g)
    (hw : ∀ env : Env, env.scope = S.sc → swappedStores [.Tuple [.Name x px, .Name y py] kt pt] (.Tuple [a, b] k2 pt2) env = pure (some [x, y]))
    (hs : ∀ env : Env, swapsWithSole [.Tuple [.Name x px, .Name y py] kt pt] (.Tuple [a, b] k2 pt2) pos.line env = pure false := by intro _; rfl) :
    RS S (.Assign [.Tuple [.Name x px, .Name y py] kt pt] (.Tuple [a, b] k2 pt2) pos) (sPar i j g) := by
  intro W B env F σ H D at_ h
  refine ⟨tPar i j (UA S W [a, b]), fun X ok => ps_par ok.calm ok.nodup (by rw [ok.N]; exact hi) (by rw [ok.N]; exact hj) hij (by rw [ok.sc]; exact hx) (by rw [ok.sc]; exact hy) (ua_pa ok) (hw _ ok.sc) (hs _), ha W B env F σ H _ at_ (Po.stm h fun ws e1 vs F1 H1 _ l1 a1 r1 q1 => ?_)⟩
  split at q1
  · cases r1 with
    | cons ra r1 =>
      cases r1 with
      | cons rb r1 =>
        cases r1
        exact ⟨_, _, rfl, q1 F1 _ H1 (.refl _) ((a1.set ra i).set rb j)⟩
  · exact q1.elim
theorem rs_expr {e : Expr} {f : FE} (ha : RE S e f) (hs : ∀ env : Env, swapsWith e none pos.line env = pure false := by intro _; rfl) : RS S (.Expr e pos) (sDrop f) := by
  intro W B env F σ H D at_ h
  exact ⟨tDrop (UE S W e), fun X ok => ps_expr (ue_pe ok) (hs _), ha W B env F σ H _ at_ (Po.stm h fun w e1 v F1 H1 _ l1 a1 r1 q1 => q1 F1 σ H1 (.refl _) a1)⟩
theorem rs_ret {e : Expr} {f : FE} (ha : RE S e f) : RS S (.Return (some e) pos) (sRet f) := by
  intro W B env F σ H D at_ h
  exact ⟨tRet (UE S W e), fun X ok => ps_ret (ue_pe ok), ha W B env F σ H _ at_ (Po.stm h fun w e1 v F1 H1 _ l1 a1 r1 q1 => q1 v F1 σ H1 (.refl _) a1 r1)⟩
theorem rs_retO {e : Expr} {f : FE} (ha : RF S e f) : RS S (.Return (some e) pos) (sRetO f) := by
  intro W B env F σ H D at_ h
  exact ⟨tRet (UE S W e), fun X ok => ps_ret (ue_pe ok), ha W B env F σ H _ at_ (PoO.stm h fun w e1 p o F1 H1 _ l1 a1 f1 f2 f3 f4 rc q1 => q1 p o F1 σ H1 (.refl _) a1 f1 f2 f3 f4 rc)⟩
theorem rs_retN : RS S (.Return none pos) sRetN := fun W B env F σ H D at_ h => ⟨tRetN, fun X ok => ps_retN, h .non F σ H (.refl F) at_ .non⟩
theorem rs_if {c : Expr} {a b : List Stmt} {t : FT} {f g : FS} (hc : RT S c t) (ha : RB S a f) (hb : RB S b g) : RS S (.If c a b pos) (sIf t f g) := by
  intro W B env F σ H D at_ h
  refine ⟨tIfS (UT S W c) (UB S W a) (UB S W b), fun X ok => ps_if (ut_pt ok) (ub_pss ok) (ub_pss ok), hc W B env F σ H _ at_ (Po.stm h fun k e1 k' F1 H1 _ l1 a1 r1 q1 => ?_)⟩
  cases (show k = k' from r1)
  cases k with
  | true => exact iteT (ha W B e1 F1 σ H1 D a1 q1)
  | false => exact iteF (hb W B e1 F1 σ H1 D a1 q1)

/-! ### while -/
def loopW (t : FT) (f : FS) : Nat → En → SR
  | 0, _ => .bad
  | k + 1, env => (t env).thn fun b e1 => match b with
    | true => (match f e1 with
      | .nx e => loopW t f k e
      | .cnt e => loopW t f k e
      | .brk e => .nx e
      | r => r)
    | false => .nx e1
def sWhile (t : FT) (f : FS) : FS := loopW t f lim
theorem rs_while {c : Expr} {body : List Stmt} {t : FT} {f : FS} (hc : RT S c t) (hb : RB S body f) (hfa : S.fa = true := by rfl) : RS S (.While c body [] pos) (sWhile t f) := by
  intro W B env F σ H D at_ h
  refine ⟨tWhile (UT S W c) (UB S W body), fun X ok => ps_while (ok.po hfa) (ut_pt ok) (ub_pss ok), fun m σ' H' => ∃ env F, At S B env F σ' H' ∧ PoS S B F W D (loopW t f m env), ⟨lim, env, F, at_, h⟩, ?_⟩
  rintro m σ1 H1 ⟨env, F, at_, h⟩
  cases m with
  | zero => exact False.elim h
  | succ m =>
    refine hc W B env F σ1 H1 _ at_ (Po.stm h fun k e1 k' F1 H2 _ l1 a1 r1 q1 => ?_)
    cases (show k = k' from r1)
    cases k with
    | false => exact iteF (q1 F1 σ1 H2 (.refl _) a1)
    | true =>
      refine iteT ⟨fun σ' H' => ∃ m', m' < m + 1 ∧ ∃ env F, At S B env F σ' H' ∧ PoS S B F W D (loopW t f m' env), fun σ' H' z => z, ?_⟩
      refine hb W B e1 F1 σ1 H2 _ a1 ?_
      have q2 : PoS S B F1 W D (match f e1 with
        | .nx e => loopW t f m e
        | .cnt e => loopW t f m e
        | .brk e => .nx e
        | r => r) := q1
      cases e : f e1 with
      | nx e2 => rw [e] at q2; exact fun F' σ' H' l a => ⟨m, Nat.lt_succ_self m, e2, F', a, PoS.at_ l q2⟩
      | cnt e2 => rw [e] at q2; exact fun F' σ' H' l a => ⟨m, Nat.lt_succ_self m, e2, F', a, PoS.at_ l q2⟩
      | brk e2 => rw [e] at q2; exact q2
      | ret w e2 => rw [e] at q2; exact q2
      | own w e2 => rw [e] at q2; exact q2
      | exc x e2 => rw [e] at q2; exact q2
      | bad => rw [e] at q2; exact q2

/-! ### what a name holds alone, changed -/
def Ev.put : Ev → W → Ev
  | .v _, w => .v w
  | .o _, w => .o w
  | .b _, w => .b w
theorem At.put {B : Fx} {env : En} {F : Hp} {σ : L2.St} {H : Hp} (a : At S B env F σ H) {i : Nat} {e : Ev} {w w' : W} {p : Addr} {o' : HO} (he : env[i]? = some (some e)) (hw : e.alone = some w) (hp : σ[i]? = some (some (V.ref p))) (rc : Rc S.g F w' o') :
    At S B (env.set i (some (e.put w'))) F σ (upd H p o') := by
  have hi : i < env.length := (List.getElem?_eq_some_iff.mp he).1
  obtain ⟨q, o, e1, e2, e3, e4, e5⟩ := a.own i e w he hw
  rw [hp] at e1
  cases e1
  have al : (e.put w').alone = some w' := by cases e <;> first | rfl | cases hw
  have old : ∀ {j : Nat} {ev : Ev}, (env.set i (some (e.put w')))[j]? = some (some ev) → (i = j ∧ ev = e.put w') ∨ (i ≠ j ∧ env[j]? = some (some ev)) := fun {j ev} h => by
    by_cases q : i = j
    · subst q; rw [List.getElem?_set_self hi] at h; cases h; exact .inl ⟨rfl, rfl⟩
    · rw [List.getElem?_set_ne q] at h; exact .inr ⟨q, h⟩
  refine ⟨a.le.up e2, a.fr.up e3, a.dj, by simp [a.len], fun j x h => ?_, fun j ev x h hx => ?_, fun j x h => ?_, fun j k ev ev' x x' r h1 h2 h3 h4 h5 h6 => ?_, tabs_mu a.tb e4 e5.mu, a.bm, a.nt⟩
  · rcases old h with ⟨rfl, z⟩ | ⟨_, z⟩
    · rw [← z] at al; cases al
    · exact a.val j x z
  · rcases old h with ⟨rfl, rfl⟩ | ⟨ne, z⟩
    · rw [al] at hx
      cases hx
      exact ⟨p, o', hp, e2, e3, upd_same, rc⟩
    · obtain ⟨r, u, f1, f2, f3, f4, f5⟩ := a.own j ev x z hx
      refine ⟨r, u, f1, f2, f3, ?_, f5⟩
      rw [upd_ne fun q => ne (a.dis i j e ev w x p he hw z hx hp (by rw [f1, q]))]
      exact f4
  · rcases old h with ⟨rfl, z⟩ | ⟨_, z⟩
    · cases e with
      | v _ => cases hw
      | o _ => cases z
      | b u => exact a.lent i u he
    · exact a.lent j x z
  · have fix : ∀ {j : Nat} {ev : Ev} {x : W}, (env.set i (some (e.put w')))[j]? = some (some ev) → ev.alone = some x → ∃ ev0 x0, env[j]? = some (some ev0) ∧ ev0.alone = some x0 := fun {j ev x} h hx => by
      rcases old h with ⟨rfl, _⟩ | ⟨_, z⟩
      · exact ⟨e, w, he, hw⟩
      · exact ⟨ev, x, z, hx⟩
    obtain ⟨v0, x0, y1, y2⟩ := fix h1 h2
    obtain ⟨v1, x1, z1, z2⟩ := fix h3 h4
    exact a.dis j k v0 v1 x0 x1 r y1 y2 z1 z2 h5 h6
/-- the thing that the name i holds alone -/
def alW (env : En) (i : Nat) : Option W := match env[i]? with
  | some (some e) => e.alone
  | _ => none
def putW (env : En) (i : Nat) (w : W) : En := match env[i]? with
  | some (some e) => env.set i (some (e.put w))
  | _ => env
theorem alW_ok {env : En} {i : Nat} {w : W} (h : alW env i = some w) : ∃ e, env[i]? = some (some e) ∧ e.alone = some w ∧ ∀ w', putW env i w' = env.set i (some (e.put w')) := by
  unfold alW at h
  split at h
  · rename_i e he
    exact ⟨e, he, h, fun w' => by unfold putW; rw [he]⟩
  · cases h
end
end Pv
namespace Pv
open PySem PySem.Spec PyProof.Rows L2

/-! ### what is walked -/
/-- the items ws are what J yields, one behind the other -/
def RSrc (S : Ctx) (B : Fx) (σ : L2.St) (F : Hp) (ws : List W) (J : It) : Prop := ∀ (B' : Fx) env F' σ' H', Le F F' → At S B' env F' σ' H' → ∀ i : Nat, (ws[i]? = none → J.stop i H') ∧
  ∀ w, ws[i]? = some w → J.go i H' ∧ ∀ x H2, J.yld i H' x H2 → ∃ F2, Le F' F2 ∧ At S B' env F2 σ' H2 ∧ Rv S.g F2 w x ∧ ∀ a o, H' a = some o → H2 a = some o
abbrev FI := En → Rs (List W)
def RI (S : Ctx) (tg iter : Expr) (f : FI) : Prop := ∀ (W : WX) B env F σ H (R : It → Hp → Prop), At S B env F σ H → Po S B σ F (RSrc S B σ) (fun c d H' => W c d σ H') R (f env) → ∃ wi, (∀ X, S.Ok W X → PI X tg iter wi) ∧ wi σ H R
def UI (S : Ctx) (W : WX) (tg iter : Expr) : TI := fun σ H R => ∃ wi, (∀ X, S.Ok W X → PI X tg iter wi) ∧ wi σ H R
theorem ui_pi {S : Ctx} {W : WX} {X : Cx} {tg iter : Expr} (ok : S.Ok W X) : PI X tg iter (UI S W tg iter) := ⟨fun pins s σ H R I ⟨t, h, q⟩ => (h X ok).run pins s σ H R I q⟩
def rngL (lo : Int) (n : Nat) : List W := (List.range n).map fun (i : Nat) => .int (lo + (i : Int))
theorem rngL_get (lo : Int) (n i : Nat) : (rngL lo n)[i]? = if i < n then some (.int (lo + (i : Int))) else none := by
  unfold rngL
  rw [List.getElem?_map]
  by_cases h : i < n
  · rw [if_pos h, List.getElem?_range h]
    rfl
  · rw [if_neg h, List.getElem?_eq_none (by simpa using h)]
    rfl
/-- counting, from lo -/
def cnt (c : Int) : Nat → Int → List W
  | 0, _ => []
  | n + 1, lo => .int lo :: cnt c n (lo + c)
theorem cnt_get (c : Int) : ∀ (n : Nat) (lo : Int) (i : Nat), (cnt c n lo)[i]? = if i < n then some (.int (lo + (i : Int) * c)) else none
  | 0, _, i => by simp [cnt]
  | n + 1, lo, 0 => by simp [cnt]
  | n + 1, lo, i + 1 => by
    simp only [cnt, List.getElem?_cons_succ, cnt_get c n (lo + c) i]
    by_cases h : i < n
    · rw [if_pos h, if_pos (by omega)]
      congr 2
      have : ((i + 1 : Nat) : Int) = (i : Int) + 1 := by omega
      rw [this, Int.add_mul, Int.one_mul]
      omega
    · rw [if_neg h, if_neg (by omega)]
def r62 : Int := 2 ^ 62
section
variable {S : Ctx} {B : Fx} {σ : L2.St} {F : Hp}
theorem rsrc_rng {lo : Int} {n : Nat} : RSrc S B σ F (cnt 1 n lo) (Itr lo n) := by
  intro B' env F' σ' H' l a i
  rw [cnt_get]
  by_cases h : i < n
  · rw [if_pos h]
    refine ⟨fun z => (by cases z), fun w e => ?_⟩
    cases e
    refine ⟨h, fun x H2 y => ?_⟩
    obtain ⟨y1, y2⟩ := y
    subst y1 y2
    refine ⟨F', .refl _, a, ?_, fun _ _ z => z⟩
    rw [Int.mul_one]
    exact .int _
  · rw [if_neg h]
    exact ⟨fun _ => Nat.le_of_not_lt h, fun w e => by cases e⟩
theorem rsrc_rngC {lo c : Int} {n : Nat} : RSrc S B σ F (cnt c n lo) (Itc lo c n) := by
  intro B' env F' σ' H' l a i
  rw [cnt_get]
  by_cases h : i < n
  · rw [if_pos h]
    refine ⟨fun z => (by cases z), fun w e => ?_⟩
    cases e
    refine ⟨h, fun x H2 y => ?_⟩
    obtain ⟨y1, y2⟩ := y
    subst y1 y2
    exact ⟨F', .refl _, a, .int _, fun _ _ z => z⟩
  · rw [if_neg h]
    exact ⟨fun _ => Nat.le_of_not_lt h, fun w e => by cases e⟩
theorem rsrc_tup {p : Addr} {ws : List W} {vs : List V} (h : F p = some (.tup vs)) (r : Rvs S.g F ws vs) : RSrc S B σ F ws (Itt S.g.K p) := by
  intro B' env F' σ' H' l a i
  have h' : SqT S.g.K H' p vs := .of (a.le _ _ (l _ _ h))
  refine ⟨fun e => ⟨vs, h', by rw [r.length]; exact List.getElem?_eq_none_iff.mp e⟩, fun w e => ?_⟩
  obtain ⟨v, e1, e2⟩ := r.get e
  refine ⟨⟨vs, v, h', e1⟩, fun x H2 y => ?_⟩
  obtain ⟨y1, y2⟩ := y
  subst y1
  have z := y2 vs h'
  rw [e1] at z
  cases z
  exact ⟨F', .refl _, a, e2.le l, fun _ _ z => z⟩
theorem rsrc_sq {p : Addr} {ws : List W} {vs : List V} (h : SqL S.g.K F p vs) (r : Rvs S.g F ws vs) : RSrc S B σ F ws (Itl S.g.K p) := by
  intro B' env F' σ' H' l a i
  have h' : SqL S.g.K H' p vs := SqL.le (l.trans a.le) h
  refine ⟨fun e => ⟨vs, h', by rw [r.length]; exact List.getElem?_eq_none_iff.mp e⟩, fun w e => ?_⟩
  obtain ⟨v, e1, e2⟩ := r.get e
  refine ⟨⟨vs, v, h', e1⟩, fun x H2 y => ?_⟩
  obtain ⟨y1, y2⟩ := y
  subst y1
  have z := y2 vs h'
  rw [e1] at z
  cases z
  exact ⟨F', .refl _, a, e2.le l, fun _ _ z => z⟩
theorem rsrc_str {z : Str} : RSrc S B σ F (z.cps.toList.map fun c => .str ⟨#[c]⟩) (Its z) := by
  intro B' env F' σ' H' l a i
  refine ⟨fun e => ?_, fun w q => ?_⟩
  · show z.cps.size ≤ i
    simpa using e
  · rw [List.getElem?_map] at q
    cases e2 : z.cps.toList[i]? with
    | none => rw [e2] at q; cases q
    | some c =>
      rw [e2] at q
      have e3 : w = .str ⟨#[c]⟩ := by simpa using q.symm
      subst e3
      refine ⟨?_, fun x H2 y => ?_⟩
      · show i < z.cps.size
        have := (List.getElem?_eq_some_iff.mp e2).1
        simpa using this
      · obtain ⟨y1, c', y2, y3⟩ := y
        subst y1 y3
        have : z.cps[i]? = some c := by simpa using e2
        have e4 : z.cps[i]? = some c' := y2
        rw [this] at e4
        cases e4
        exact ⟨F', .refl _, a, .str _, fun _ _ z => z⟩
theorem rv_kW {G : Wo} {F : Hp} (k : Key) : Rv G F (kW k) (kV k) := by
  cases k
  · exact .int _
  · exact .str _
theorem rsrc_keys {p : Addr} {ob : Obj} {kvs : List (W × W)} {hk : List (Key × V)} (h : F p = some (.frz ob (.dK hk))) (e : kvs.map (·.1) = hk.map fun q => kW q.1) : RSrc S B σ F (kvs.map (·.1)) (Itk p ob hk) := by
  intro B' env F' σ' H' l a i
  have h' := a.le _ _ (l _ _ h)
  rw [e]
  refine ⟨fun z => ⟨h', by simpa using z⟩, fun w z => ?_⟩
  rw [List.getElem?_map, Option.map_eq_some_iff] at z
  obtain ⟨⟨k, v⟩, e1, rfl⟩ := z
  refine ⟨⟨h', (List.getElem?_eq_some_iff.mp e1).1⟩, fun x H2 y => ?_⟩
  obtain ⟨y1, k', v', y2, y3⟩ := y
  subst y1 y3
  rw [e1] at y2
  cases y2
  exact ⟨F', .refl _, a, rv_kW _, fun _ _ z => z⟩
/-- a tuple that stands there is frozen -/
theorem At.tupF {env : En} {F : Hp} {σ : L2.St} {H : Hp} (a : At S B env F σ H) {q : Addr} {vs : List V} (h : H q = some (.tup vs)) : ∃ F2, Le F F2 ∧ At S B env F2 σ H ∧ F2 q = some (.tup vs) := by
  cases e : F q with
  | some o =>
    have z := a.le q o e
    rw [h] at z
    cases z
    exact ⟨F, .refl F, a, e⟩
  | none =>
    have hB : B.B q = none := by
      cases eb : B.B q with
      | none => rfl
      | some o =>
        have z := a.fr q o eb
        rw [h] at z
        cases z
        cases a.bm q _ eb
    refine ⟨upd F q (.tup vs), Le.new e, a.frz0 e hB (fun i ev w h1 h2 h3 => ?_) h, upd_same⟩
    obtain ⟨p, o, e1, e2, e3, e4, e5⟩ := a.own i ev w h1 h2
    rw [e1] at h3
    cases h3
    rw [h] at e4
    cases e4
    cases e5
theorem rvs_kW {G : Wo} {F : Hp} : ∀ ks : List Key, Rvs G F (ks.map kW) (ks.map kV)
  | [] => .nil
  | k :: ks => .cons (rv_kW k) (rvs_kW ks)
theorem rsrc_keysT {p : Addr} {ob : Obj} {kvs : List (W × W)} {hk : List (List Key × V)} (h : F p = some (.frz ob (.dT hk))) (e : kvs.map (·.1) = hk.map fun q => tW q.1) : RSrc S B σ F (kvs.map (·.1)) (Itkt p ob hk) := by
  intro B' env F' σ' H' l a i
  have h' := a.le _ _ (l _ _ h)
  rw [e]
  refine ⟨fun z => ⟨h', by simpa using z⟩, fun w z => ?_⟩
  rw [List.getElem?_map, Option.map_eq_some_iff] at z
  obtain ⟨⟨k, v⟩, e1, rfl⟩ := z
  refine ⟨⟨h', (List.getElem?_eq_some_iff.mp e1).1⟩, fun x H2 y => ?_⟩
  obtain ⟨y1, k', v', q, y2, y3, y4⟩ := y
  subst y1 y3
  rw [e1] at y2
  cases y2
  obtain ⟨F2, l2, a2, hq⟩ := a.tupF y4
  exact ⟨F2, l2, a2, .tup hq (rvs_kW k), fun _ _ z => z⟩
/-- a new pair -/
theorem new_pair {env : En} {F' : Hp} {σ' : L2.St} {B' : Fx} {H' : Hp} {T : Addr} {ws : List W} {vs : List V} (a : At S B' env F' σ' H') (n : H' T = none) (r : Rvs S.g F' ws vs) :
    ∃ F2, Le F' F2 ∧ At S B' env F2 σ' (upd H' T (.tup vs)) ∧ Rv S.g F2 (.tup ws) (.ref T) ∧ ∀ c o, H' c = some o → upd H' T (.tup vs) c = some o :=
  ⟨_, Le.new (none_le a.le n), a.new n _, .tup upd_same (r.le (Le.new (none_le a.le n))), fun c o h => by rw [upd_ne (ne_of_none h n)]; exact h⟩
/-- items with their places -/
def numF : Nat → List W → List W
  | _, [] => []
  | n, w :: ws => .tup [.int (n : Int), w] :: numF (n + 1) ws
theorem numF_get : ∀ (n : Nat) (ws : List W) (i : Nat), (numF n ws)[i]? = ws[i]?.map fun w => .tup [.int ((n + i : Nat) : Int), w]
  | n, [], i => by simp [numF]
  | n, w :: ws, 0 => by simp [numF]
  | n, w :: ws, i + 1 => by
    simp only [numF, List.getElem?_cons_succ, numF_get (n + 1) ws i]
    rw [show n + 1 + i = n + (i + 1) from by omega]
theorem rsrc_enm {p : Addr} {ws : List W} {vs : List V} (h : SqL S.g.K F p vs) (r : Rvs S.g F ws vs) : RSrc S B σ F (numF 0 ws) (Ite S.g.K p) := by
  intro B' env F' σ' H' l a i
  have h' : SqL S.g.K H' p vs := SqL.le (l.trans a.le) h
  rw [numF_get, Nat.zero_add]
  refine ⟨fun e => ⟨vs, h', by rw [r.length]; simpa using e⟩, fun w e => ?_⟩
  rw [Option.map_eq_some_iff] at e
  obtain ⟨w0, e, rfl⟩ := e
  obtain ⟨v, e3, e4⟩ := r.get e
  refine ⟨⟨vs, v, h', e3⟩, fun y H2 z => ?_⟩
  obtain ⟨T, u, rfl, hT, rfl, hu⟩ := z
  have eu := hu vs h'
  rw [e3] at eu
  cases eu
  exact new_pair a hT (.cons (.int _) (.cons (e4.le l) .nil))
theorem rsrc_enT {p : Addr} {ws : List W} {vs : List V} (h : F p = some (.tup vs)) (r : Rvs S.g F ws vs) : RSrc S B σ F (numF 0 ws) (Pg.IteT S.g.K p) := by
  intro B' env F' σ' H' l a i
  have h' : SqT S.g.K H' p vs := .of (a.le _ _ (l _ _ h))
  rw [numF_get, Nat.zero_add]
  refine ⟨fun e => ⟨vs, h', by rw [r.length]; simpa using e⟩, fun w e => ?_⟩
  rw [Option.map_eq_some_iff] at e
  obtain ⟨w0, e, rfl⟩ := e
  obtain ⟨v, e3, e4⟩ := r.get e
  refine ⟨⟨vs, v, h', e3⟩, fun y H2 z => ?_⟩
  obtain ⟨T, u, rfl, hT, rfl, hu⟩ := z
  have eu := hu vs h'
  rw [e3] at eu
  cases eu
  exact new_pair a hT (.cons (.int _) (.cons (e4.le l) .nil))
def zipF : List W → List W → List W
  | x :: xs, y :: ys => .tup [x, y] :: zipF xs ys
  | _, _ => []
theorem zipF_get : ∀ (xs ys : List W) (i : Nat), (xs[i]? = none ∨ ys[i]? = none → (zipF xs ys)[i]? = none) ∧ ∀ x y, xs[i]? = some x → ys[i]? = some y → (zipF xs ys)[i]? = some (.tup [x, y])
  | [], ys, i => ⟨fun _ => by simp [zipF], fun x y h => by simp at h⟩
  | x :: xs, [], i => ⟨fun _ => by simp [zipF], fun x y _ h => by simp at h⟩
  | x :: xs, y :: ys, 0 => ⟨fun h => by simp at h, fun u v h1 h2 => by simp at h1 h2; subst h1 h2; simp [zipF]⟩
  | x :: xs, y :: ys, i + 1 => by simpa [zipF] using zipF_get xs ys i
theorem zipF_none {xs ys : List W} {i : Nat} (h : (zipF xs ys)[i]? = none) : xs[i]? = none ∨ ys[i]? = none := by
  cases e1 : xs[i]? with
  | none => exact .inl rfl
  | some x =>
    cases e2 : ys[i]? with
    | none => exact .inr rfl
    | some y => rw [(zipF_get xs ys i).2 x y e1 e2] at h; cases h
theorem zipF_some {xs ys : List W} {i : Nat} {w : W} (h : (zipF xs ys)[i]? = some w) : ∃ x y, xs[i]? = some x ∧ ys[i]? = some y ∧ w = .tup [x, y] := by
  cases e1 : xs[i]? with
  | none => rw [(zipF_get xs ys i).1 (.inl e1)] at h; cases h
  | some x =>
    cases e2 : ys[i]? with
    | none => rw [(zipF_get xs ys i).1 (.inr e2)] at h; cases h
    | some y => rw [(zipF_get xs ys i).2 x y e1 e2] at h; exact ⟨x, y, rfl, rfl, (Option.some.inj h).symm⟩
theorem rsrc_zp {p c : Addr} {ws ws2 : List W} {vs vs2 : List V} (hx : SqL S.g.K F p vs) (hy : SqL S.g.K F c vs2) (rx : Rvs S.g F ws vs) (ry : Rvs S.g F ws2 vs2) : RSrc S B σ F (zipF ws ws2) (Itz S.g.K p c) := by
  intro B' env F' σ' H' l a i
  have e1 : SqL S.g.K H' p vs := SqL.le (l.trans a.le) hx
  have f1 : SqL S.g.K H' c vs2 := SqL.le (l.trans a.le) hy
  refine ⟨fun e => ?_, fun w e => ?_⟩
  · rcases zipF_none e with e | e
    · exact ⟨vs, vs2, e1, f1, .inl (by rw [rx.length]; exact List.getElem?_eq_none_iff.mp e)⟩
    · exact ⟨vs, vs2, e1, f1, .inr (by rw [ry.length]; exact List.getElem?_eq_none_iff.mp e)⟩
  · obtain ⟨x, y, h1, h2, rfl⟩ := zipF_some e
    obtain ⟨v, e3, e4⟩ := rx.get h1
    obtain ⟨v2, f3, f4⟩ := ry.get h2
    refine ⟨⟨vs, vs2, v, v2, e1, f1, e3, f3⟩, fun y H2 z => ?_⟩
    obtain ⟨T, u, u2, rfl, hT, rfl, hu, hu2⟩ := z
    have eu := hu vs e1
    rw [e3] at eu
    cases eu
    have eu2 := hu2 vs2 f1
    rw [f3] at eu2
    cases eu2
    exact new_pair a hT (.cons (e4.le l) (.cons (f4.le l) .nil))
theorem rsrc_zpT {p c : Addr} {ws ws2 : List W} {vs vs2 : List V} (hx : F p = some (.tup vs)) (hy : F c = some (.tup vs2)) (rx : Rvs S.g F ws vs) (ry : Rvs S.g F ws2 vs2) : RSrc S B σ F (zipF ws ws2) (RZ.ItzT S.g.K p c) := by
  intro B' env F' σ' H' l a i
  have e1 : SqT S.g.K H' p vs := .of (a.le _ _ (l _ _ hx))
  have f1 : SqT S.g.K H' c vs2 := .of (a.le _ _ (l _ _ hy))
  refine ⟨fun e => ?_, fun w e => ?_⟩
  · rcases zipF_none e with e | e
    · exact ⟨vs, vs2, e1, f1, .inl (by rw [rx.length]; exact List.getElem?_eq_none_iff.mp e)⟩
    · exact ⟨vs, vs2, e1, f1, .inr (by rw [ry.length]; exact List.getElem?_eq_none_iff.mp e)⟩
  · obtain ⟨x, y, h1, h2, rfl⟩ := zipF_some e
    obtain ⟨v, e3, e4⟩ := rx.get h1
    obtain ⟨v2, f3, f4⟩ := ry.get h2
    refine ⟨⟨vs, vs2, v, v2, e1, f1, e3, f3⟩, fun y H2 z => ?_⟩
    obtain ⟨T, u, u2, rfl, hT, rfl, hu, hu2⟩ := z
    have eu := hu vs e1
    rw [e3] at eu
    cases eu
    have eu2 := hu2 vs2 f1
    rw [f3] at eu2
    cases eu2
    exact new_pair a hT (.cons (e4.le l) (.cons (f4.le l) .nil))
end
/-- a range that is kept as a value, walked -/
def iRgV (te : TE) : TI := fun σ H R => te σ H fun x H1 => ∃ (a : Addr) (lo hi : Int), x = .ref a ∧ H1 a = some (.rng lo hi) ∧ (-r62 ≤ lo ∧ lo < r62 ∧ -r62 ≤ hi ∧ hi < r62) ∧ R (Itr lo (hi - lo).toNat) H1
theorem pi_rgV {X : Cx} {tg e : Expr} {te : TE} (he : PE X e te) : PI X tg e (iRgV te) := by
  refine ⟨fun pins s σ H R I h => ?_⟩
  refine thn (he.run pins s σ H _ I h) fun v s1 ⟨x, H1, I1, r1, a, lo, hi, ex, ea, ⟨b1, b2, b3, b4⟩, q⟩ => ?_
  subst ex
  obtain rfl : v = PySem.Value.ref a := r1
  obtain ⟨t, u, w, ho⟩ : ObjOk X.prog X.w H1 s1.heap a (.rng lo hi) := I1.hok a _ ea
  refine wpAny_pyIter_range ho (small_one b1 b2 b3 b4) ?_
  refine ⟨s1.heap.objs.size, [s1.heap.objs.size], _, _, H1, rfl, I1.kept (t' := s1.toks) fun b o z => Heap.get?_push_of_some _ z, turn_range _ lo (hi - lo).toNat, ?_, fun b hb => ?_, q⟩
  · have e1 : lo + ((0 : Nat) : Int) * 1 = lo := by simp
    have e2 : (((hi - lo).toNat : Nat) : Int) - ((0 : Nat) : Int) = Builtin.Range.rangeSize lo hi 1 := by
      rw [rangeSize_one]
      split <;> omega
    show IsRangeIter _ _ (lo + ((0 : Nat) : Int) * 1) ((((hi - lo).toNat : Nat) : Int) - ((0 : Nat) : Int)) 1
    rw [e1, e2]; exact Heap.get?_push_size _ rfl
  · obtain rfl : b = s1.heap.objs.size := by simpa using hb
    exact I1.fpOk (Nat.le_refl _) (I1.hok.fresh (Nat.le_refl _))
/-- the items of what is walked -/
def itemsW : W → Option (List W)
  | .tup ws => some ws
  | .lst ws => some ws
  | .rol ws => some ws
  | .dic kvs => some (kvs.map (·.1))
  | .str z => some (z.cps.toList.map fun c => .str ⟨#[c]⟩)
  | .rg lo hi => if -r62 ≤ lo ∧ lo < r62 ∧ -r62 ≤ hi ∧ hi < r62 then some (cnt 1 (hi - lo).toNat lo) else none
  | _ => none
def fSeq (f : FE) : FI := fun env => (f env).bind fun x e1 => ofO (itemsW x) e1
section
variable {S : Ctx} {pos p : Pos} {tg e : Expr} {f : FE}
theorem Po.ofI {B : Fx} {en : En} {σ : L2.St} {F : Hp} {Wd : XW} {R : It → Hp → Prop} {r : Option (List W)} (h : Po S B σ F (RSrc S B σ) Wd R (Pv.ofO r en)) : ∃ ws, r = some ws ∧ ∀ H J, At S B en F σ H → RSrc S B σ F ws J → R J H := by
  cases r with
  | none => exact h.elim
  | some k => exact ⟨k, rfl, fun H J a z => h J F H (.refl F) a z⟩
theorem ri_seq (ha : RE S e f) : RI S tg e (fSeq f) := by
  intro W B env F σ H R at_ q
  unfold fSeq at q
  cases e0 : f env with
  | bad => rw [e0] at q; exact q.elim
  | exc x s1 =>
    rw [e0] at q
    refine ⟨iStr (UE S W e), fun X ok => pi_str (ue_pe ok), ha W B env F σ H _ at_ ?_⟩
    rw [e0]
    exact q
  | ok x s1 =>
    have q0 := q
    rw [e0] at q
    cases x with
    | tup ws =>
      refine ⟨iTup S.g.K (UE S W e), fun X ok => by have z := @pi_tup X tg e _ (ue_pe (S := S) (W := W) ok); rw [ok.K] at z; exact z, ha W B env F σ H _ at_ (Po.bnd q0 fun x e1 v F1 H1 ex l1 a1 r1 q1 => ?_)⟩
      rw [e0] at ex
      cases ex
      obtain ⟨ws', ew, n⟩ := q1.ofI
      cases ew
      cases r1 with
      | tup h rs => exact ⟨_, rfl, ⟨_, .of (a1.le _ _ h)⟩, n _ _ a1 (rsrc_tup h rs)⟩
    | lst ws =>
      refine ⟨iList S.g.K (UE S W e), fun X ok => by have z := @pi_list X tg e _ (ue_pe (S := S) (W := W) ok); rw [ok.K] at z; exact z, ha W B env F σ H _ at_ (Po.bnd q0 fun x e1 v F1 H1 ex l1 a1 r1 q1 => ?_)⟩
      rw [e0] at ex
      cases ex
      obtain ⟨ws', ew, n⟩ := q1.ofI
      cases ew
      cases r1 with
      | lst h rs => exact ⟨_, rfl, ⟨_, .of (a1.le _ _ h)⟩, n _ _ a1 (rsrc_sq (.of h) rs)⟩
    | rol ws =>
      refine ⟨iList S.g.K (UE S W e), fun X ok => by have z := @pi_list X tg e _ (ue_pe (S := S) (W := W) ok); rw [ok.K] at z; exact z, ha W B env F σ H _ at_ (Po.bnd q0 fun x e1 v F1 H1 ex l1 a1 r1 q1 => ?_)⟩
      rw [e0] at ex
      cases ex
      obtain ⟨ws', ew, n⟩ := q1.ofI
      cases ew
      cases r1 with
      | rol h rs => exact ⟨_, rfl, ⟨_, SqL.le a1.le h⟩, n _ _ a1 (rsrc_sq h rs)⟩
    | str z =>
      refine ⟨iStr (UE S W e), fun X ok => pi_str (ue_pe ok), ha W B env F σ H _ at_ (Po.bnd q0 fun x e1 v F1 H1 ex l1 a1 r1 q1 => ?_)⟩
      rw [e0] at ex
      cases ex
      obtain ⟨ws', ew, n⟩ := q1.ofI
      cases ew
      cases r1
      exact ⟨_, rfl, n _ _ a1 rsrc_str⟩
    | dic kvs =>
      refine ⟨iKeys (UE S W e), fun X ok => pi_keys (ue_pe ok), ha W B env F σ H _ at_ (Po.bnd q0 fun x e1 v F1 H1 ex l1 a1 r1 q1 => ?_)⟩
      rw [e0] at ex
      cases ex
      obtain ⟨ws', ew, n⟩ := q1.ofI
      cases ew
      cases r1 with
      | dK h e rs => exact ⟨_, _, rfl, .inl ⟨_, a1.le _ _ h, n _ _ a1 (rsrc_keys h e)⟩⟩
      | dT _ h e rs => exact ⟨_, _, rfl, .inr ⟨_, a1.le _ _ h, n _ _ a1 (rsrc_keysT h e)⟩⟩
    | rg lo hi =>
      refine ⟨iRgV (UE S W e), fun X ok => pi_rgV (ue_pe ok), ha W B env F σ H _ at_ (Po.bnd q0 fun x e1 v F1 H1 ex l1 a1 r1 q1 => ?_)⟩
      rw [e0] at ex
      cases ex
      obtain ⟨ws', ew, n⟩ := q1.ofI
      unfold itemsW at ew
      dsimp only at ew
      split at ew
      · rename_i c
        cases ew
        cases r1 with
        | rg h => exact ⟨_, lo, hi, rfl, a1.le _ _ h, c, n _ _ a1 rsrc_rng⟩
      · cases ew
    | non => exact q.elim
    | bl b => exact q.elim
    | int i => exact q.elim
    | ty n => exact q.elim
    | ins k w => exact q.elim
    | set k => exact q.elim
    | jk => exact q.elim
    | gl x => exact q.elim
def rng1W : List W → Option (List W)
  | [.int j] => if -r62 ≤ j ∧ j < r62 then some (cnt 1 j.toNat 0) else none
  | _ => none
def rng2W : List W → Option (List W)
  | [.int i, .int j] => if -r62 ≤ i ∧ i < r62 ∧ -r62 ≤ j ∧ j < r62 then some (cnt 1 (j - i).toNat i) else none
  | _ => none
def fIt (h : List W → Option (List W)) (g : FA) : FI := fun env => (g env).bind fun ws e1 => ofO (h ws) e1
theorem ri_rng1 {a : Expr} {g : FA} (hg : S.sc.names.lookup ("range" : Str) = some .globalImplicit) (hm : S.g.mg ("range" : Str) = none) (ha : RA S [a] g) (hs : ∀ env : Env, starEach [a] env = [(false, eval a env)] := by intro _; rfl) : RI S tg (.Call (.Name "range" p) [a] [] pos) (fIt rng1W g) := by
  intro W B env F σ H R at_ q
  refine ⟨iRng1 (UA S W [a]), fun X ok => pi_range1 (gl_of ok hg) (by rw [ok.mg]; exact hm) (ua_pa ok) (hs _), ha W B env F σ H _ at_ (Po.bnd q fun ws e1 vs F1 H1 _ l1 a1 r1 q1 => ?_)⟩
  obtain ⟨ws', ew, n⟩ := q1.ofI
  unfold rng1W at ew
  split at ew
  · split at ew
    · rename_i hl
      cases ew
      cases r1 with
      | cons r1 rr =>
        cases rr
        cases r1
        exact ⟨_, rfl, hl.1, hl.2, n _ _ a1 rsrc_rng⟩
    · cases ew
  · cases ew
theorem ri_rng2 {a b : Expr} {g : FA} (hg : S.sc.names.lookup ("range" : Str) = some .globalImplicit) (hm : S.g.mg ("range" : Str) = none) (ha : RA S [a, b] g) (hs : ∀ env : Env, starEach [a, b] env = [(false, eval a env), (false, eval b env)] := by intro _; rfl) (hs2 : ∀ env : Env, starEach [b] env = [(false, eval b env)] := by intro _; rfl) :
    RI S tg (.Call (.Name "range" p) [a, b] [] pos) (fIt rng2W g) := by
  intro W B env F σ H R at_ q
  refine ⟨iRng2 (UA S W [a, b]), fun X ok => pi_range2 (gl_of ok hg) (by rw [ok.mg]; exact hm) (ua_pa ok) (hs _) (hs2 _), ha W B env F σ H _ at_ (Po.bnd q fun ws e1 vs F1 H1 _ l1 a1 r1 q1 => ?_)⟩
  obtain ⟨ws', ew, n⟩ := q1.ofI
  unfold rng2W at ew
  split at ew
  · split at ew
    · rename_i hl
      cases ew
      cases r1 with
      | cons r1 rr =>
        cases rr with
        | cons r2 rr =>
          cases rr
          cases r1
          cases r2
          exact ⟨_, _, rfl, hl, n _ _ a1 rsrc_rng⟩
    · cases ew
  · cases ew
def enumW : List W → Option (List W)
  | [.tup xs] => some (numF 0 xs)
  | [.lst xs] => some (numF 0 xs)
  | _ => none
def zipW : List W → Option (List W)
  | [.tup xs, .tup ys] => some (zipF xs ys)
  | [.lst xs, .lst ys] => some (zipF xs ys)
  | _ => none
variable {elts : List Expr} {kk : Nat} {tpos : Pos} {e2 : Expr} {g : FA}
theorem ri_enum (hg : S.sc.names.lookup ("enumerate" : Str) = some .globalImplicit) (hm : S.g.mg ("enumerate" : Str) = none) (ha : RA S [e] g) (hs : ∀ env : Env, starEach [e] env = [(false, eval e env)] := by intro _; rfl) :
    RI S (.Tuple elts kk tpos) (.Call (.Name "enumerate" p) [e] [] pos) (fIt enumW g) := by
  intro W B env F σ H R at_ q
  have q0 := q
  unfold fIt at q
  by_cases hx : ∃ xs e1, g env = .ok [.lst xs] e1
  · obtain ⟨xs, e1, e0⟩ := hx
    refine ⟨iEnum S.g.K (UA S W [e]), fun X ok => by have z := @pi_enum X e _ p pos tpos elts kk (gl_of ok hg) (by rw [ok.mg]; exact hm) (ua_pa (S := S) (W := W) ok) (hs _); rw [ok.K] at z; exact z, ha W B env F σ H _ at_ (Po.bnd q fun ws e1 vs F1 H1 ex l1 a1 r1 q1 => ?_)⟩
    rw [e0] at ex
    cases ex
    obtain ⟨ws', ew, n⟩ := q1.ofI
    cases ew
    cases r1 with
    | cons r rr =>
      cases rr
      cases r with
      | lst h rs => exact ⟨_, _, rfl, .of (a1.le _ _ h), n _ _ a1 (rsrc_enm (.of h) rs)⟩
  · refine ⟨Pg.iEnT S.g.K (UA S W [e]), fun X ok => by have z := @Pg.pi_enT X e _ p pos tpos elts kk (gl_of ok hg) (by rw [ok.mg]; exact hm) (ua_pa (S := S) (W := W) ok) (hs _); rw [ok.K] at z; exact z, ha W B env F σ H _ at_ (Po.bnd q fun ws e1 vs F1 H1 ex l1 a1 r1 q1 => ?_)⟩
    obtain ⟨ws', ew, n⟩ := q1.ofI
    unfold enumW at ew
    split at ew
    · cases ew
      cases r1 with
      | cons r rr =>
        cases rr
        cases r with
        | tup h rs => exact ⟨_, _, rfl, .of (a1.le _ _ h), n _ _ a1 (rsrc_enT h rs)⟩
    · exact absurd ⟨_, _, ex⟩ hx
    · cases ew
theorem ri_zip (hg : S.sc.names.lookup ("zip" : Str) = some .globalImplicit) (hm : S.g.mg ("zip" : Str) = none) (ha : RA S [e, e2] g) (hs : ∀ env : Env, starEach [e, e2] env = (false, eval e env) :: starEach [e2] env := by intro _; rfl) (hpl : ∀ env : Env, (backTo pos (starEach [e2] env)).any (·.1) = false := by intro _; rfl) :
    RI S (.Tuple elts kk tpos) (.Call (.Name "zip" p) [e, e2] [] pos) (fIt zipW g) := by
  intro W B env F σ H R at_ q
  refine ⟨RZ.iZipA S.g.K (UA S W [e, e2]), fun X ok => by have z := @RZ.pi_zipA X e e2 _ p pos tpos elts kk (gl_of ok hg) (by rw [ok.mg]; exact hm) (ua_pa (S := S) (W := W) ok) (hs _) (hpl _); rw [ok.K] at z; exact z, ha W B env F σ H _ at_ (Po.bnd q fun ws e1 vs F1 H1 ex l1 a1 r1 q1 => ?_)⟩
  obtain ⟨ws', ew, n⟩ := q1.ofI
  unfold zipW at ew
  split at ew
  · cases ew
    cases r1 with
    | cons r rr =>
      cases rr with
      | cons r2 rr =>
        cases rr
        cases r with
        | tup h rs =>
          cases r2 with
          | tup h2 rs2 => exact ⟨_, _, _, _, rfl, .inr ⟨.of (a1.le _ _ h), .of (a1.le _ _ h2), n _ _ a1 (rsrc_zpT h h2 rs rs2)⟩⟩
  · cases ew
    cases r1 with
    | cons r rr =>
      cases rr with
      | cons r2 rr =>
        cases rr
        cases r with
        | lst h rs =>
          cases r2 with
          | lst h2 rs2 => exact ⟨_, _, _, _, rfl, .inl ⟨.of (a1.le _ _ h), .of (a1.le _ _ h2), n _ _ a1 (rsrc_zp (.of h) (.of h2) rs rs2)⟩⟩
  · cases ew

/-! ### for -/
def loopF (g : FG) (f : FS) : List W → En → SR
  | [], env => .nx env
  | w :: ws, env => match g w env with
    | none => .bad
    | some e1 => match f e1 with
      | .nx e => loopF g f ws e
      | .cnt e => loopF g f ws e
      | .brk e => .nx e
      | r => r
def sFor (I : FI) (g : FG) (f : FS) : FS := fun env => (I env).thn fun ws e1 => loopF g f ws e1
theorem rs_for {iter : Expr} {body : List Stmt} {I : FI} {is : List Nat} {g : FG} {f : FS} (hi : RI S tg iter I) (hg : RG S tg is g) (hb : RB S body f) (hs : ∀ (env : Env) (x : Value), foldedSetIterable iter env x = pure x := by intro _ _; rfl) (hfa : S.fa = true := by rfl) : RS S (.For tg iter body [] pos) (sFor I g f) := by
  intro W B env F σ H D at_ h
  refine ⟨tFor (UI S W tg iter) (UG S W tg) (UB S W body), fun X ok => ps_for (ok.po hfa) ok.calm (ui_pi ok) (ug_pg ok) (ub_pss ok) (hs _), hi W B env F σ H _ at_ (Po.stm h fun ws e1 J F1 H1 _ l1 a1 r1 q1 => ?_)⟩
  refine ⟨fun i m σ' H' => m = ws.length - i ∧ i ≤ ws.length ∧ ∃ env F2, At S B env F2 σ' H' ∧ Le F1 F2 ∧ PoS S B F2 W D (loopF g f (ws.drop i) env), ⟨ws.length, rfl, Nat.zero_le _, e1, F1, a1, .refl _, q1⟩, ?_⟩
  rintro i m σ2 H2 ⟨rfl, hi, env, F2, at_, l2, h⟩
  have src := r1 B env F2 σ2 H2 l2 at_ i
  cases e : ws[i]? with
  | none =>
    have hd : ws.drop i = [] := List.drop_eq_nil_of_le (List.getElem?_eq_none_iff.mp e)
    rw [hd] at h
    exact .inl ⟨src.1 e, h F2 σ2 H2 (.refl _) at_⟩
  | some w =>
    have hlt : i < ws.length := (List.getElem?_eq_some_iff.mp e).1
    have hd : ws.drop i = w :: ws.drop (i + 1) := by
      rw [List.drop_eq_getElem_cons hlt]
      have := (List.getElem?_eq_some_iff.mp e).2
      rw [this]
    rw [hd] at h
    obtain ⟨go, yl⟩ := src.2 w e
    refine .inr ⟨go, fun σ' H' => ∃ m', m' < ws.length - i ∧ m' = ws.length - (i + 1) ∧ i + 1 ≤ ws.length ∧ ∃ env F2, At S B env F2 σ' H' ∧ Le F1 F2 ∧ PoS S B F2 W D (loopF g f (ws.drop (i + 1)) env), fun σ' H' z => z, fun x H' y => ?_⟩
    obtain ⟨F3, l3, a3, rx, _⟩ := yl x H' y
    unfold loopF at h
    cases eg : g w env with
    | none => simp only [eg] at h; exact False.elim h
    | some e2 =>
      simp only [eg] at h
      refine hg W w x B env e2 F3 σ2 H' _ a3 rx eg fun σ' at' _ => ?_
      refine hb W B e2 F3 σ' H' _ at' ?_
      have h2 := PoS.at_ l3 h
      have l23 := l2.trans l3
      cases eb : f e2 with
      | nx e3 => simp only [eb] at h2; exact fun F' σ' H' l a => ⟨ws.length - (i + 1), by omega, rfl, hlt, e3, F', a, l23.trans l, PoS.at_ l h2⟩
      | cnt e3 => simp only [eb] at h2; exact fun F' σ' H' l a => ⟨ws.length - (i + 1), by omega, rfl, hlt, e3, F', a, l23.trans l, PoS.at_ l h2⟩
      | brk e3 => simp only [eb] at h2; exact h2
      | ret w e3 => simp only [eb] at h2; exact h2
      | own w e3 => simp only [eb] at h2; exact h2
      | exc x e3 => simp only [eb] at h2; exact h2
      | bad => simp only [eb] at h2; exact h2
end
end Pv
namespace Pv
open PySem PySem.Spec PyProof.Rows L2
open Pg (TakesH Top XEA XEH WB tLcX pe_lcX ps_setLcX air_of)

/-! ### comprehensions -/
theorem wipe_len (σ : L2.St) : ∀ vs : List Nat, (wipe σ vs).length = σ.length
  | [] => rfl
  | v :: vs => by show ((wipe σ vs).set v none).length = _; rw [List.length_set, wipe_len σ vs]
theorem wipe_get (σ : L2.St) (j : Nat) : ∀ vs : List Nat, (wipe σ vs)[j]? = if j ∈ vs ∧ j < σ.length then some none else σ[j]?
  | [] => by simp [wipe]
  | v :: vs => by
    show ((wipe σ vs).set v none)[j]? = _
    by_cases e : v = j
    · subst e
      by_cases hl : v < σ.length
      · rw [List.getElem?_set_self (by rw [wipe_len]; exact hl), if_pos ⟨List.mem_cons_self, hl⟩]
      · rw [if_neg (fun z => hl z.2), List.getElem?_eq_none (by rw [List.length_set, wipe_len]; omega), List.getElem?_eq_none (by omega)]
    · rw [List.getElem?_set_ne e, wipe_get σ j vs]
      by_cases h : j ∈ vs ∧ j < σ.length
      · rw [if_pos h, if_pos ⟨List.mem_cons_of_mem _ h.1, h.2⟩]
      · rw [if_neg h, if_neg (fun z => h ⟨(List.mem_cons.mp z.1).resolve_left (fun q => e q.symm), z.2⟩)]
theorem wipe_out {σ σ' : L2.St} {is vs : List Nat} (o : Out is (wipe σ vs) σ') (h : ∀ i ∈ is, i ∈ vs) : wipe σ' vs = wipe σ vs := by
  have hl : σ'.length = σ.length := o.1.trans (wipe_len σ vs)
  refine List.ext_getElem? fun j => ?_
  rw [wipe_get, wipe_get, hl]
  by_cases q : j ∈ vs ∧ j < σ.length
  · rw [if_pos q, if_pos q]
  · rw [if_neg q, if_neg q]
    by_cases hj : j ∈ is
    · have : ¬ j < σ.length := fun z => q ⟨h j hj, z⟩
      rw [List.getElem?_eq_none (by omega), List.getElem?_eq_none (by omega)]
    · rw [o.2 j hj, wipe_get, if_neg q]
def wipeE (env : En) : List Nat → En
  | [] => env
  | v :: vs => (wipeE env vs).set v none
theorem wipeE_len (env : En) : ∀ vs : List Nat, (wipeE env vs).length = env.length
  | [] => rfl
  | v :: vs => by show ((wipeE env vs).set v none).length = _; rw [List.length_set, wipeE_len env vs]
theorem wipeE_get (env : En) (j : Nat) : ∀ vs : List Nat, (wipeE env vs)[j]? = if j ∈ vs ∧ j < env.length then some none else env[j]?
  | [] => by simp [wipeE]
  | v :: vs => by
    show ((wipeE env vs).set v none)[j]? = _
    by_cases e : v = j
    · subst e
      by_cases hl : v < env.length
      · rw [List.getElem?_set_self (by rw [wipeE_len]; exact hl), if_pos ⟨List.mem_cons_self, hl⟩]
      · rw [if_neg (fun z => hl z.2), List.getElem?_eq_none (by rw [List.length_set, wipeE_len]; omega), List.getElem?_eq_none (by omega)]
    · rw [List.getElem?_set_ne e, wipeE_get env j vs]
      by_cases h : j ∈ vs ∧ j < env.length
      · rw [if_pos h, if_pos ⟨List.mem_cons_of_mem _ h.1, h.2⟩]
      · rw [if_neg h, if_neg (fun z => h ⟨(List.mem_cons.mp z.1).resolve_left (fun q => e q.symm), z.2⟩)]
/-- the block's names as they were ahead of it -/
def restE (e0 env : En) : List Nat → En
  | [] => env
  | v :: vs => (restE e0 env vs).set v ((e0[v]?).getD none)
theorem restE_len (e0 env : En) : ∀ vs : List Nat, (restE e0 env vs).length = env.length
  | [] => rfl
  | v :: vs => by show ((restE e0 env vs).set v _).length = _; rw [List.length_set, restE_len e0 env vs]
theorem restE_get (e0 env : En) (j : Nat) : ∀ vs : List Nat, (restE e0 env vs)[j]? = if j ∈ vs ∧ j < env.length then some ((e0[j]?).getD none) else env[j]?
  | [] => by simp [restE]
  | v :: vs => by
    show ((restE e0 env vs).set v _)[j]? = _
    by_cases e : v = j
    · subst e
      by_cases hl : v < env.length
      · rw [List.getElem?_set_self (by rw [restE_len]; exact hl), if_pos ⟨List.mem_cons_self, hl⟩]
      · rw [if_neg (fun z => hl z.2), List.getElem?_eq_none (by rw [List.length_set, restE_len]; omega), List.getElem?_eq_none (by omega)]
    · rw [List.getElem?_set_ne e, restE_get e0 env j vs]
      by_cases h : j ∈ vs ∧ j < env.length
      · rw [if_pos h, if_pos ⟨List.mem_cons_of_mem _ h.1, h.2⟩]
      · rw [if_neg h, if_neg (fun z => h ⟨(List.mem_cons.mp z.1).resolve_left (fun q => e q.symm), z.2⟩)]
/-- none of these names holds a thing alone -/
def noAl (env : En) : List Nat → Bool
  | [] => true
  | v :: vs => match alW env v with
    | none => noAl env vs
    | some _ => false
theorem noAl_ok {env : En} : ∀ {vs : List Nat}, noAl env vs = true → ∀ v ∈ vs, alW env v = none
  | [], _, v, hv => by cases hv
  | u :: vs, h, v, hv => by
    unfold noAl at h
    split at h
    · rename_i e
      rcases List.mem_cons.mp hv with rfl | hv
      · exact e
      · exact noAl_ok h v hv
    · cases h
section
variable {S : Ctx} {B : Fx} {env env' : En} {F F' : Hp} {σ σ' : L2.St} {H H' : Hp}
theorem At.cast {S' : Ctx} (a : At S B env F σ H) (h : S'.g = S.g) : At S' B env F σ H := by
  obtain ⟨a1, a2, a3, a4, a5, a6, a7, a8, a9, a10, a11⟩ := a
  exact ⟨a1, a2, a3, a4, by rw [h]; exact a5, by rw [h]; exact a6, a7, a8, by rw [h]; exact a9, a10, a11⟩
theorem At.wipe (a : At S B env F σ H) (vs : List Nat) : At S B (wipeE env vs) F (L2.wipe σ vs) H := by
  have old : ∀ {j : Nat} {ev : Ev}, (wipeE env vs)[j]? = some (some ev) → ¬ (j ∈ vs ∧ j < env.length) ∧ env[j]? = some (some ev) := fun {j ev} h => by
    rw [wipeE_get] at h
    by_cases q : j ∈ vs ∧ j < env.length
    · rw [if_pos q] at h; cases h
    · rw [if_neg q] at h; exact ⟨q, h⟩
  have wg : ∀ {j : Nat}, ¬ (j ∈ vs ∧ j < env.length) → (L2.wipe σ vs)[j]? = σ[j]? := fun {j} h => by
    rw [wipe_get, if_neg (by rw [← a.len]; exact h)]
  refine ⟨a.le, a.fr, a.dj, by rw [wipeE_len, wipe_len]; exact a.len, fun j x h => ?_, fun j ev x h hx => ?_, fun j x h => ?_, fun j k e e' x x' p h1 h2 h3 h4 h5 h6 => ?_, a.tb, a.bm, a.nt⟩
  · obtain ⟨n, h⟩ := old h
    rw [wg n]; exact a.val j x h
  · obtain ⟨n, h⟩ := old h
    rw [wg n]; exact a.own j ev x h hx
  · obtain ⟨n, h⟩ := old h
    rw [wg n]; exact a.lent j x h
  · obtain ⟨n1, h1⟩ := old h1
    obtain ⟨n3, h3⟩ := old h3
    rw [wg n1] at h5
    rw [wg n3] at h6
    exact a.dis j k e e' x x' p h1 h2 h3 h4 h5 h6
theorem At.rest (a : At S B env F σ H) {vs : List Nat} (b : At S B env' F' (L2.wipe σ vs) H') (l : Le F F') (n : noAl env vs = true) : At S B (restE env env' vs) F' σ H' := by
  have hl : env'.length = env.length := by rw [b.len, wipe_len, a.len]
  have old : ∀ {j : Nat} {ev : Ev}, (restE env env' vs)[j]? = some (some ev) → (j ∈ vs ∧ env[j]? = some (some ev)) ∨ ((L2.wipe σ vs)[j]? = σ[j]? ∧ env'[j]? = some (some ev)) := fun {j ev} h => by
    rw [restE_get] at h
    by_cases q : j ∈ vs ∧ j < env'.length
    · rw [if_pos q] at h
      cases e : env[j]? with
      | none => rw [e] at h; cases h
      | some x => rw [e] at h; exact .inl ⟨q.1, h⟩
    · rw [if_neg q] at h
      refine .inr ⟨?_, h⟩
      rw [wipe_get, if_neg (by rw [← a.len, ← hl]; exact q)]
  have noa : ∀ {j : Nat} {ev : Ev} {x : W}, j ∈ vs → env[j]? = some (some ev) → ev.alone = some x → False := fun {j ev x} h1 h2 h3 => by
    have z := noAl_ok n j h1
    unfold alW at z
    rw [h2] at z
    dsimp only at z
    rw [z] at h3
    cases h3
  refine ⟨b.le, b.fr, b.dj, by rw [restE_len, hl]; exact a.len, fun j x h => ?_, fun j ev x h hx => ?_, fun j x h => ?_, fun j k e e' x x' p h1 h2 h3 h4 h5 h6 => ?_, b.tb, b.bm, b.nt⟩
  · rcases old h with ⟨m, h⟩ | ⟨m, h⟩
    · obtain ⟨v, z1, z2⟩ := a.val j x h
      exact ⟨v, z1, z2.le l⟩
    · rw [← m]; exact b.val j x h
  · rcases old h with ⟨m, h⟩ | ⟨m, h⟩
    · exact (noa m h hx).elim
    · rw [← m]; exact b.own j ev x h hx
  · rcases old h with ⟨m, h⟩ | ⟨m, h⟩
    · exact (noa m h (x := x) rfl).elim
    · rw [← m]; exact b.lent j x h
  · rcases old h1 with ⟨m, h1⟩ | ⟨m1, h1⟩
    · exact (noa m h1 h2).elim
    · rcases old h3 with ⟨m, h3⟩ | ⟨m3, h3⟩
      · exact (noa m h3 h4).elim
      · rw [← m1] at h5
        rw [← m3] at h6
        exact b.dis j k e e' x x' p h1 h2 h3 h4 h5 h6
/-- a thing that no name has changes -/
theorem At.wr (a : At S B env F σ H) {p : Addr} {o o' : HO} (hF : F p = none) (hB : B.B p = none) (fr : Free env σ p) (e : H p = some o) (mu : Mu o) : At S B env F σ (upd H p o') := by
  refine a.mv (.refl F) (a.le.up hF) (a.fr.up hB) a.dj (fun i ev w q h1 h2 h3 => ?_) (tabs_mu a.tb e mu) a.nt
  have ne : q ≠ p := fun z => fr i ev w h1 h2 (by rw [h3, z])
  obtain ⟨p', o', e1, e2, e3, e4, e5⟩ := a.own i ev w h1 h2
  rw [e1] at h3
  cases h3
  exact ⟨e2, upd_ne ne⟩
end
def compB (vs : List Nat) (g : FG) (t : FT) (f : FE) : W → En → Rs (Option W) := fun w env => match g w (wipeE env vs) with
  | none => .bad
  | some e1 => (t e1).bind fun b e2 => match b with
    | true => (f e2).bind fun y e3 => .ok (some y) e3
    | false => .ok none e2
def compL (body : W → En → Rs (Option W)) : List W → En → Rs (List W)
  | [], env => .ok [] env
  | w :: ws, env => match body w env with
    | .ok (some y) e => (compL body ws e).bind fun ys e2 => .ok (y :: ys) e2
    | .ok none e => compL body ws e
    | .exc x e => .exc x e
    | .bad => .bad
def Rs.back (r : Rs (List W)) (e0 : En) (vs : List Nat) : Rs W := match r with
  | .ok ys e => .ok (.lst ys) (restE e0 (wipeE e vs) vs)
  | .exc x e => .exc x (restE e0 (wipeE e vs) vs)
  | .bad => .bad
def fComp (I : FI) (vs : List Nat) (g : FG) (t : FT) (f : FE) : FE := fun env => (I env).bind fun ws e1 => if ws.length ≤ sizeLine ∧ noAl e1 vs = true then (compL (compB vs g t f) ws e1).back e1 vs else .bad
/-- the block's own context -/
abbrev Ctx.blk (S : Ctx) (scope : Scope) : Ctx := { S with sc := relS scope S.sc, fa := false, cq := none, ow := fun x => scope.names.lookup x == some .cell }
abbrev WF : WX := fun _ _ _ _ => False
theorem blk_ok {S : Ctx} {W : WX} {X : Cx} (ok : S.Ok W X) (scope : Scope) (s : Shared) (H : Hp) (C : Addr) (cl : List (Str × Addr)) (fp : List Addr) : (S.blk scope).Ok WF (X.blk s H scope (compEnvC scope cl C X.env) fp) where
  P := ok.P
  w := ok.w
  K := ok.K
  mg := ok.mg
  base := ok.base
  N := ok.N
  nodup := ok.nodup
  sc := by show relS scope X.env.scope = relS scope S.sc; rw [ok.sc]
  calm := ok.calm
  room := ok.room
  gd := ok.gd
  fa := fun z => by cases z
  stk := fun z => by cases z
  lam := fun c P q z => by cases z
  tk := L2.takes0
  po := fun z => by cases z
  ow := fun x h => h
  th := fun L u s' _ ⟨_, _, _, _, _, _, _, _, _, _, _, _, _, _, _, _, w⟩ => w.elim
  top := let ⟨e0, o0, L, t⟩ := ok.top; ⟨e0, o0, L, ⟨t.st, t.fr, t.f0⟩⟩
/-- .. where an error may leave the block -/
theorem blk_okX {S : Ctx} {W : WX} {X : Cx} (ok : S.Ok W X) (scope : Scope) (Wo : Value → Option Addr → Hp → Prop) (s : Shared) (H : Hp) (C : Addr) (cl : List (Str × Addr)) (fp : List Addr) : (S.blk scope).Ok (WB Wo) (X.blkX s H scope (compEnvC scope cl C X.env) fp Wo) where
  P := ok.P
  w := ok.w
  K := ok.K
  mg := ok.mg
  base := ok.base
  N := ok.N
  nodup := ok.nodup
  sc := by show relS scope X.env.scope = relS scope S.sc; rw [ok.sc]
  calm := ok.calm
  room := ok.room
  gd := ok.gd
  fa := fun z => by cases z
  stk := fun z => by cases z
  lam := fun c P q z => by cases z
  tk := fun u s' x => (air_of x).unwish
  po := fun z => by cases z
  ow := fun x h => h
  th := fun L u s' _ x => x.air.unwish
  top := let ⟨e0, o0, L, t⟩ := ok.top; ⟨e0, o0, L, ⟨t.st, t.fr, t.f0⟩⟩
def fYes : FT := fun env => .ok true env
def RTs (S : Ctx) (ifs : List Expr) (t : FT) : Prop := ∀ (W : WX) B env F σ H (Q : Bool → Hp → Prop), At S B env F σ H → Po S B σ F EqB (fun c d H' => W c d σ H') Q (t env) → ∃ t, (∀ X, S.Ok W X → PTs X ifs t) ∧ t σ H Q
def UTs (S : Ctx) (W : WX) (ifs : List Expr) : TT := fun σ H Q => ∃ t, (∀ X, S.Ok W X → PTs X ifs t) ∧ t σ H Q
theorem uts_pts {S : Ctx} {W : WX} {X : Cx} {ifs : List Expr} (ok : S.Ok W X) : PTs X ifs (UTs S W ifs) := ⟨fun pins s σ H Q I ⟨t, h, q⟩ => (h X ok).run pins s σ H Q I q⟩
section
variable {S : Ctx} {pos : Pos}
theorem rts_nil : RTs S [] fYes := fun W B env F σ H Q at_ q => ⟨tYes, fun X ok => pts_nil, q true F H (.refl F) at_ rfl⟩
theorem rts_one {c : Expr} {t : FT} (h : RT S c t) : RTs S [c] t := fun W B env F σ H Q at_ q => ⟨UT S W c, fun X ok => pts_one (ut_pt ok), h W B env F σ H Q at_ q⟩
/-- what a filled list's block goes on with -/
def Bk (S : Ctx) (B : Fx) (σ : L2.St) (F : Hp) (e0 : En) (vs : List Nat) (acc : List W) (Wd : XW) (Q : VK) : Rs (List W) → Prop
  | .ok ys e => PoO S B σ F Wd Q (.ok (.lst (acc ++ ys)) (restE e0 (wipeE e vs) vs))
  | .exc x e => PoO S B σ F Wd Q (.exc x (restE e0 (wipeE e vs) vs))
  | .bad => False
theorem Bk.at_ {B : Fx} {σ : L2.St} {F F1 : Hp} {e0 : En} {vs : List Nat} {acc : List W} {Wd : XW} {Q : VK} {r : Rs (List W)} (l : Le F F1) (h : Bk S B σ F e0 vs acc Wd Q r) : Bk S B σ F1 e0 vs acc Wd Q r := by
  cases r with
  | ok ys e => exact fun p o F' H' l' a b c d e r => h p o F' H' (l.trans l') a b c d e r
  | exc x e => exact fun c d F' H' l' a r => h c d F' H' (l.trans l') a r
  | bad => exact h
theorem wipe_wipe (σ : L2.St) (vs : List Nat) : wipe (wipe σ vs) vs = wipe σ vs := by
  refine List.ext_getElem? fun j => ?_
  rw [wipe_get, wipe_len]
  by_cases qq : j ∈ vs ∧ j < σ.length
  · rw [if_pos qq, wipe_get, if_pos qq]
  · rw [if_neg qq]
theorem comp_rd {tg iter elt : Expr} {ifs : List Expr} {scope : Scope} {vs is : List Nat} {I : FI} {g : FG} {t : FT} {f : FE} (hi : RI S tg iter I) (hg : RG (S.blk scope) tg is g) (his : ∀ i ∈ is, i ∈ vs) (ht : RTs (S.blk scope) ifs t) (he : RE (S.blk scope) elt f)
    {W : WX} {B : Fx} {env : En} {F : Hp} {σ : L2.St} {H : Hp} {Q : VK} (at_ : At S B env F σ H) (q : PoO S B σ F (fun c d H' => W c d σ H') Q (fComp I vs g t f env)) :
    tLcX W (UI S W tg iter) (fun Wo => UG (S.blk scope) (WB Wo) tg) (fun Wo => UTs (S.blk scope) (WB Wo) ifs) (fun Wo => UE (S.blk scope) (WB Wo) elt) vs σ H Q := by
  refine hi W B env F σ H _ at_ (Po.bndO q fun ws e1 J F1 H1 _ l1 a1 r1 q1 => fun D hD => ?_)
  split at q1
  case isFalse => exact q1.elim
  rename_i cond
  obtain ⟨hz, hno⟩ := cond
  have hD1 : F1 D = none := none_le a1.le hD
  have hDB : B.B D = none := none_le a1.fr hD
  -- the state as it stands in the block
  let BD : List V → Fx := fun av => { B with B := upd B.B D (.lst av) }
  let St : Nat → List Pv.W → En → Hp → Hp → Prop := fun i acc ev F2 H2 => ∃ av, At S (BD av) (wipeE ev vs) F2 (wipe σ vs) H2 ∧ Le F1 F2 ∧ Rvs S.g F2 acc av ∧ acc.length ≤ i ∧ Bk S B σ F2 e1 vs acc (fun c d H' => W c d σ H') Q (compL (compB vs g t f) (ws.drop i) ev)
  have start : St 0 [] e1 F1 (upd H1 D (.lst [])) := by
    refine ⟨[], ?_, .refl _, .nil, Nat.le_refl _, ?_⟩
    · have a0 := (a1.newO hD (.lst [])).wipe vs
      refine a0.push (.lst []) hD1 (fun i ev w h1 h2 h3 => ?_) upd_same
      have h1' := h1
      rw [wipeE_get] at h1'
      by_cases qq : i ∈ vs ∧ i < e1.length
      · rw [if_pos qq] at h1'; cases h1'
      · rw [if_neg qq] at h1'
        rw [wipe_get, if_neg (by rw [← a1.len]; exact qq)] at h3
        exact a1.ne_own hD i ev w h1' h2 h3
    · rw [List.drop_zero]
      cases e : compL (compB vs g t f) ws e1 with
      | ok ys e => rw [e] at q1; exact q1
      | exc x e => rw [e] at q1; exact q1
      | bad => rw [e] at q1; exact q1
  -- its end, whatever has been made
  have fin : ∀ {av : List V} {ev : En} {F2 H2 : Hp}, At S (BD av) (wipeE ev vs) F2 (wipe σ vs) H2 → Le F1 F2 → At S B (restE e1 (wipeE ev vs) vs) F2 σ H2 ∧ F2 D = none ∧ H2 D = some (.lst av) ∧ Free (restE e1 (wipeE ev vs) vs) σ D := fun {av ev F2 H2} aw l => by
    obtain ⟨b, z1, z2, z3⟩ := aw.pop hDB
    refine ⟨a1.rest b l hno, z1, z2, fun i ev' w h1 h2 h3 => ?_⟩
    rw [restE_get] at h1
    by_cases qq : i ∈ vs ∧ i < (wipeE ev vs).length
    · rw [if_pos qq] at h1
      cases e : e1[i]? with
      | none => rw [e] at h1; cases h1
      | some x =>
        rw [e] at h1
        have z : x = some ev' := Option.some.inj h1
        rw [z] at e
        have nz := noAl_ok hno i qq.1
        unfold alW at nz
        rw [e] at nz
        dsimp only at nz
        rw [nz] at h2
        cases h2
    · rw [if_neg qq] at h1
      refine z3 i ev' w h1 h2 ?_
      rw [wipe_get, if_neg (by
        have hl : (wipeE ev vs).length = σ.length := by rw [b.len, wipe_len]
        rw [← hl]; exact qq)]
      exact h3
  refine ⟨fun i m H' => m = ws.length - i ∧ i ≤ ws.length ∧ ∃ acc ev F2, St i acc ev F2 H', ⟨ws.length, rfl, Nat.zero_le _, [], _, _, start⟩, ?_⟩
  rintro i m H2 ⟨rfl, hi', acc, ev, F2, av, a2, l2, ra, hacc, h⟩
  have src := r1 (BD av) _ F2 (wipe σ vs) H2 l2 a2 i
  cases e : ws[i]? with
  | none =>
    have hd : ws.drop i = [] := List.drop_eq_nil_of_le (List.getElem?_eq_none_iff.mp e)
    rw [hd] at h
    refine .inl ⟨src.1 e, ?_⟩
    obtain ⟨b, z1, z2, z3⟩ := fin a2 l2
    unfold compL Bk at h
    dsimp only at h
    rw [List.append_nil] at h
    exact h D _ F2 H2 (.refl _) b z1 hDB z3 z2 (.lst ra (by omega))
  | some w =>
    have hlt : i < ws.length := (List.getElem?_eq_some_iff.mp e).1
    have hd : ws.drop i = w :: ws.drop (i + 1) := by
      rw [List.drop_eq_getElem_cons hlt]
      have := (List.getElem?_eq_some_iff.mp e).2
      rw [this]
    rw [hd] at h
    obtain ⟨go, yl⟩ := src.2 w e
    refine .inr ⟨go, fun H' => ∃ m', m' < ws.length - i ∧ m' = ws.length - (i + 1) ∧ i + 1 ≤ ws.length ∧ ∃ acc ev F2, St (i + 1) acc ev F2 H', fun H' z => z, fun x H3 y => ?_⟩
    obtain ⟨F3, l3, a3, rx, _⟩ := yl x H3 y
    have l13 := l2.trans l3
    have h3 := Bk.at_ l3 h
    unfold compL at h3
    -- the wished for ends of an error that leaves the block
    have out : ∀ {y : XV} {ev' : En} {F4 : Hp} {σ4 : L2.St}, Le F3 F4 → wipe σ4 vs = wipe σ vs → Bk S B σ F3 e1 vs acc (fun c d H' => W c d σ H') Q (.exc y ev') → ∀ c d F' H', Le F4 F' → At S (BD av) ev' F' σ4 H' → Rx S.g F' y c d → W c d σ H' := fun {y ev' F4 σ4} l4 hw hb c d F' H' l' a' rx' => by
      have aw := a'.wipe vs
      rw [hw] at aw
      have l1' : Le F1 F' := l13.trans (l4.trans l')
      obtain ⟨b, _⟩ := aw.pop hDB
      exact hb c d F' H' (l4.trans l') (a1.rest b l1' hno) rx'
    cases eg : g w (wipeE ev vs) with
    | none => rw [show compB vs g t f w ev = .bad from by unfold compB; rw [eg]] at h3; exact False.elim h3
    | some e2 =>
      rw [show compB vs g t f w ev = ((t e2).bind fun b e2 => match b with
        | true => (f e2).bind fun y e3 => .ok (some y) e3
        | false => .ok none e2) from by unfold compB; rw [eg]] at h3
      have an : At (S.blk scope) (BD av) (wipeE ev vs) F3 (wipe σ vs) H3 := a3.cast rfl
      refine hg _ w x _ _ e2 F3 _ H3 _ an rx eg fun σ' at' outs => ⟨wipe_out outs his, ?_⟩
      have hw' := wipe_out outs his
      refine ht _ _ e2 F3 σ' H3 _ at' ?_
      cases et : t e2 with
      | bad => rw [et] at h3; exact False.elim h3
      | exc y e3 =>
        rw [et] at h3
        exact fun c d F' H' l' a' rx' => out (.refl _) hw' h3 c d F' H' l' (a'.cast rfl) rx'
      | ok bt e3 =>
        rw [et] at h3
        intro bt' F4 H4 l4 a4 rb
        cases (show bt = bt' from rb)
        have l14 := l13.trans l4
        cases bt with
        | false =>
          refine iteF ⟨ws.length - (i + 1), by omega, rfl, hlt, acc, e3, F4, av, ?_, l14, ra.le (l3.trans l4), by omega, Bk.at_ l4 h3⟩
          have z := a4.wipe vs
          rw [hw'] at z
          exact z.cast rfl
        | true =>
          refine iteT ?_
          refine he _ _ e3 F4 σ' H4 _ a4 ?_
          have h4 : Bk S B σ F3 e1 vs acc (fun c d H' => W c d σ H') Q (match (f e3).bind fun y e3 => .ok (some y) e3 with
              | .ok (some y) e => (compL (compB vs g t f) (ws.drop (i + 1)) e).bind fun ys e2 => .ok (y :: ys) e2
              | .ok none e => compL (compB vs g t f) (ws.drop (i + 1)) e
              | .exc x e => .exc x e
              | .bad => .bad) := h3
          cases ee : f e3 with
          | bad => rw [ee] at h4; exact False.elim h4
          | exc y e4 =>
            rw [ee] at h4
            exact fun c d F' H' l' a' rx' => out l4 hw' h4 c d F' H' l' (a'.cast rfl) rx'
          | ok y e4 =>
            rw [ee] at h4
            intro v F5 H5 l5 a5 rv
            have l15 := l14.trans l5
            have z := a5.wipe vs
            rw [hw'] at z
            have z' : At S (BD av) (wipeE e4 vs) F5 (wipe σ vs) H5 := z.cast rfl
            obtain ⟨b, b1, b2, b3⟩ := z'.pop hDB
            refine ⟨av, b2, ?_, ws.length - (i + 1), by omega, rfl, hlt, acc ++ [y], e4, F5, av ++ [v], ?_, l15, (ra.le (l3.trans (l4.trans l5))).append (.cons rv .nil), by simp; omega, ?_⟩
            · rw [ra.length]; omega
            · exact (b.wr b1 hDB b3 b2 (.lst _)).push (.lst _) b1 b3 upd_same
            · have h5 := Bk.at_ (l4.trans l5) h4
              have h6 : Bk S B σ F5 e1 vs acc (fun c d H' => W c d σ H') Q ((compL (compB vs g t f) (ws.drop (i + 1)) e4).bind fun ys e2 => .ok (y :: ys) e2) := h5
              cases ec : compL (compB vs g t f) (ws.drop (i + 1)) e4 with
              | ok ys e5 =>
                rw [ec] at h6
                show PoO S B σ F5 (fun c d H' => W c d σ H') Q (.ok (.lst (acc ++ [y] ++ ys)) _)
                rw [List.append_assoc]
                exact h6
              | exc x e5 => rw [ec] at h6; exact h6
              | bad => rw [ec] at h6; exact h6
theorem rf_comp {tg iter elt : Expr} {ifs : List Expr} {scope : Scope} {own : List (Str × Nat)} {is : List Nat} {I : FI} {g : FG} {t : FT} {f : FE} (ok0 : blkC S.N S.sc scope own = true) (hi : RI S tg iter I) (hg : RG (S.blk scope) tg is g) (ht : RTs (S.blk scope) ifs t) (he : RE (S.blk scope) elt f)
    (his : ∀ i ∈ is, i ∈ own.map (·.2) := by decide) (hs : ∀ (env : Env) (x : Value), foldedSetIterable iter env x = pure x := by intro _ _; rfl) : RF S (.ListComp elt [⟨tg, iter, ifs, 0⟩] scope pos) (fComp I (own.map (·.2)) g t f) := fun W B env F σ H Q at_ q =>
  ⟨_, fun X ok => let ⟨_, _, _, tp⟩ := ok.top; pe_lcX tp ok.th ok.calm ok.nodup (ui_pi ok) (by rw [ok.N, ok.sc]; exact blkOk_by ok0) (fun Wo s H C cl fp => ug_pg (blk_okX ok scope Wo s H C cl fp)) (fun Wo s H C cl fp => uts_pts (blk_okX ok scope Wo s H C cl fp)) (fun Wo s H C cl fp => ue_pe (blk_okX ok scope Wo s H C cl fp)) (hs _), comp_rd hi hg his ht he at_ q⟩
theorem re_comp {tg iter elt : Expr} {ifs : List Expr} {scope : Scope} {own : List (Str × Nat)} {is : List Nat} {I : FI} {g : FG} {t : FT} {f : FE} (ok0 : blkC S.N S.sc scope own = true) (hi : RI S tg iter I) (hg : RG (S.blk scope) tg is g) (ht : RTs (S.blk scope) ifs t) (he : RE (S.blk scope) elt f)
    (his : ∀ i ∈ is, i ∈ own.map (·.2) := by decide) (hs : ∀ (env : Env) (x : Value), foldedSetIterable iter env x = pure x := by intro _ _; rfl) : RE S (.ListComp elt [⟨tg, iter, ifs, 0⟩] scope pos) (fComp I (own.map (·.2)) g t f) := re_rf (rf_comp ok0 hi hg ht he his hs)
/-- y = [..], where the block is stored on the spot -/
theorem rs_owncomp {i : Nat} {y : Str} {py spos : Pos} {tg iter elt : Expr} {ifs : List Expr} {scope : Scope} {own : List (Str × Nat)} {is : List Nat} {I : FI} {g : FG} {t : FT} {f : FE} (hy : S.N[i]? = some y) (hyl : S.sc.names.lookup y = some .local)
    (hsw : ∀ env : Env, env.scope = S.sc → swapsWith (.ListComp elt [⟨tg, iter, ifs, 0⟩] scope pos) (some (.Name y py)) spos.line env = pure true)
    (ok0 : blkC S.N S.sc scope own = true) (hi : RI S tg iter I) (hg : RG (S.blk scope) tg is g) (ht : RTs (S.blk scope) ifs t) (he : RE (S.blk scope) elt f)
    (his : ∀ i ∈ is, i ∈ own.map (·.2) := by decide) (hs : ∀ (env : Env) (x : Value), foldedSetIterable iter env x = pure x := by intro _ _; rfl) :
    RS S (.Assign [.Name y py] (.ListComp elt [⟨tg, iter, ifs, 0⟩] scope pos) spos) (sOwn i (fComp I (own.map (·.2)) g t f)) := by
  intro W B env F σ H D at_ h
  refine ⟨_, fun X ok => let ⟨_, _, _, tp⟩ := ok.top; ps_setLcX tp ok.th ok.calm ok.nodup (by rw [ok.N]; exact hy) (by rw [ok.sc]; exact hyl) (hsw _ ok.sc) (ui_pi ok) (by rw [ok.N, ok.sc]; exact blkOk_by ok0) (fun Wo s H C cl fp => ug_pg (blk_okX ok scope Wo s H C cl fp)) (fun Wo s H C cl fp => uts_pts (blk_okX ok scope Wo s H C cl fp)) (fun Wo s H C cl fp => ue_pe (blk_okX ok scope Wo s H C cl fp)) (hs _), ?_⟩
  refine comp_rd (W := W) hi hg his ht he at_ (PoO.stm h fun w e1 p o F1 H1 _ l1 a1 f1 f2 f3 f4 rc q1 => ?_)
  exact q1 F1 _ H1 (.refl _) (a1.setO i f1 f2 f3 f4 rc)
end
end Pv
namespace Pv
open PySem PySem.Spec PyProof.Rows L2
open Pg (TakesH Top XEA XEH WB held_of)

/-! ### defs -/
def startE (n : Nat) (ws : List W) : En := ws.map (fun w => some (.v w)) ++ List.replicate (n - ws.length) none
def endF : SR → Rf
  | .nx _ => .ok .non
  | .ret w _ => .ok w
  | .exc x _ => .exc x
  | _ => .bad
def fnOf (n : Nat) (f : FS) : Fn := fun ws => endF (f (startE n ws))
theorem start_get {n : Nat} {ws : List W} {i : Nat} {e : Ev} (h : (startE n ws)[i]? = some (some e)) : ∃ w, ws[i]? = some w ∧ e = .v w := by
  unfold startE at h
  by_cases hi : i < ws.length
  · rw [List.getElem?_append_left (by simpa using hi), List.getElem?_map] at h
    cases q : ws[i]? with
    | none => rw [q] at h; cases h
    | some u => rw [q] at h; cases h; exact ⟨u, rfl, rfl⟩
  · rw [List.getElem?_append_right (by simpa using Nat.le_of_not_lt hi)] at h
    have z := List.mem_of_getElem? h
    rw [List.mem_replicate] at z
    cases z.2
theorem start_at {S : Ctx} {B : Hp} {ba : Nat → Addr} {F H : Hp} {ws : List W} {vs : List V} (g : Gh S.g B F H) (r : Rvs S.g F ws vs) : At S ⟨B, ba⟩ (startE S.N.length ws) F (L2.start S.N vs) H := by
  refine ⟨g.le, g.fr, g.dj, by simp [startE, L2.start, r.length], fun i w h => ?_, fun i e w h1 h2 => ?_, fun i w h => ?_, fun i j e e' w w' a h1 h2 => ?_, g.tb, g.bm, g.nt⟩
  · obtain ⟨u, e1, e2⟩ := start_get h
    cases e2
    obtain ⟨v, h1, h2⟩ := r.get e1
    refine ⟨v, ?_, h2⟩
    unfold L2.start
    have hi := (List.getElem?_eq_some_iff.mp e1).1
    rw [List.getElem?_append_left (by rw [List.length_map, r.length]; exact hi), List.getElem?_map, h1]
    rfl
  · obtain ⟨u, e1, rfl⟩ := start_get h1
    cases h2
  · obtain ⟨u, e1, e2⟩ := start_get h
    cases e2
  · obtain ⟨u, e1, rfl⟩ := start_get h1
    cases h2
/-- how a body's end is a def's answer -/
theorem end_ok {S : Ctx} {B : Hp} {ba : Nat → Addr} {F : Hp} {E : XK} {Q : VK} {r : SR} (po : PoF S.g B F E Q (endF r)) : PoS S ⟨B, ba⟩ F (fun cls d _ H => E cls d H) { nx := fun _ H' => Q .non H', rt := Q } r := by
  cases r with
  | nx e => exact fun F' σ' H' l a => po .non F' H' l a.gh .non
  | ret w e => exact fun v F' σ' H' l a rv => po v F' H' l a.gh rv
  | exc x e => exact fun c d F' σ' H' l a rx => po c d F' H' l a.gh rx
  | own w e => exact po.elim
  | brk e => exact po.elim
  | cnt e => exact po.elim
  | bad => exact po.elim
theorem def_fn {G : Wo} {x qual : Str} {stt : Stmt} {fa : Addr} {fd : FuncData} {N ps : List Str} {lv : Nat} {f : FS} (Fu : L2.Fun G.K x qual stt fa fd) (sc : FnScope N ps (defScope stt)) (hb : RB ⟨G, N, defScope stt, lv, true, none, fun _ => false⟩ (defBody stt) f) :
    FnG G.P G.w G.K G.mg G.base (L2.CX G.P G.w) (lv + 1) fa fd ps (spF G (fnOf N.length f) ps.length) := by
  obtain ⟨oc, od, kV, doc, pm, an, cdv, ct, osl, rfl, lk, hcd⟩ := Fu.ex
  have len : ∀ vs H Q E, spF G (fnOf N.length f) ps.length vs H Q E → vs.length = ps.length := fun vs H Q E ⟨ws, B, F, hl, _, rv, _⟩ => by rw [rv.length]; exact hl
  refine ⟨len, fun A outer s H args us vs Q E hr gd e0 hbn r hsp => LamX.run_ofS lk hcd sc hr e0 hbn r (len _ _ _ _ hsp) fun hr' => ?_⟩
  obtain ⟨ws, B, F, hl, g, rv, po⟩ := hsp
  obtain ⟨t, h1, h2⟩ := hb (fun cls d _ H => E cls d H) ⟨B, fun _ => 0⟩ (startE N.length ws) F (L2.start N vs) H { nx := fun _ H' => Q .non H', rt := Q } (start_at g rv) (end_ok po)
  exact ⟨t, h1 _ ⟨rfl, rfl, rfl, rfl, rfl, rfl, sc.nd, rfl, rfl, hr', gd, fun _ _ => rfl, fun c P q z => (by cases z), fun _ => ⟨rfl, rfl⟩, takes_of rfl rfl rfl rfl, fun _ => passes_of rfl, fun _ z => (by cases z), held_of (takes_of rfl rfl rfl rfl) rfl, ⟨_, _, _, ⟨rfl, rfl, rfl⟩⟩⟩, h2⟩
/-- a def in which lambdas are made -/
theorem def_fnL {G : Wo} {x qual : Str} {stt : Stmt} {fa c P : Addr} {kV doc pm ct oc : Value} {an od : Option Addr} {osl : Array (Option Value)} {N ps : List Str} {lv : Nat} {f : FS} (lk : G.K.lookup fa = some ⟨oc, od, .func (PySem.W.fnOf x qual (defArgs stt) (defBody stt) (defScope stt) .none kV doc pm an (.ref c) ct), osl⟩)
    (hcd : PySem.W.codeIn G.K (.ref c) qual = true) (TB : LamX.TabB G.base G.mg c P) (sc : FnScope N ps (defScope stt)) (hb : RB ⟨G, N, defScope stt, lv, true, some (c, P, qual ++ ".<locals>."), fun _ => false⟩ (defBody stt) f) :
    FnG G.P G.w G.K G.mg G.base (L2.CX G.P G.w) (lv + 1) fa (PySem.W.fnOf x qual (defArgs stt) (defBody stt) (defScope stt) .none kV doc pm an (.ref c) ct) ps (spF G (fnOf N.length f) ps.length) := by
  have len : ∀ vs H Q E, spF G (fnOf N.length f) ps.length vs H Q E → vs.length = ps.length := fun vs H Q E ⟨ws, B, F, hl, _, rv, _⟩ => by rw [rv.length]; exact hl
  refine ⟨len, fun A outer s H args us vs Q E hr gd e0 hbn r hsp => LamX.run_ofS lk hcd sc hr e0 hbn r (len _ _ _ _ hsp) fun hr' => ?_⟩
  obtain ⟨ws, B, F, hl, g, rv, po⟩ := hsp
  obtain ⟨t, h1, h2⟩ := hb (fun cls d _ H => E cls d H) ⟨B, fun _ => 0⟩ (startE N.length ws) F (L2.start N vs) H { nx := fun _ H' => Q .non H', rt := Q } (start_at g rv) (end_ok po)
  exact ⟨t, h1 _ ⟨rfl, rfl, rfl, rfl, rfl, rfl, sc.nd, rfl, rfl, hr', gd, fun _ _ => rfl, fun c' P' q z => (by cases z; exact ⟨rfl, rfl, TB⟩), fun _ => ⟨rfl, rfl⟩, takes_of rfl rfl rfl rfl, fun _ => passes_of rfl, fun _ z => (by cases z), held_of (takes_of rfl rfl rfl rfl) rfl, ⟨_, _, _, ⟨rfl, rfl, rfl⟩⟩⟩, h2⟩
theorem def_ok {G : Wo} {x qual : Str} {stt : Stmt} {fa : Addr} {fd : FuncData} {N ps : List Str} {lv : Nat} {f : FS} (Fu : L2.Fun G.K x qual stt fa fd) (sc : FnScope N ps (defScope stt)) (hb : RB ⟨G, N, defScope stt, lv, true, none, fun _ => false⟩ (defBody stt) f)
    (hm : G.mg x = some (.ref fa)) (b : Binds G.K fd ps []) : DefOk G (lv + 1) x ps.length (fnOf N.length f) := ⟨fa, fd, ps, rfl, def_fn Fu sc hb, hm, Fu.kp, b⟩

/-! ### a def to which its caller lends its first thing -/
inductive Rb where
  | ok (w c : W)
  | exc (x : XV) (c : W)
  | bad
/-- the lent thing, the other arguments -/
abbrev Fb := W → List W → Rb
def PoB (G : Wo) (B F : Hp) (p : Addr) (E : XK) (Q : VK) : Rb → Prop
  | .ok w c => ∀ v o F' H', Le F F' → Gh G B F' H' → F' p = none → H' p = some o → Rc G F' c o → Rv G F' w v → Q v H'
  | .exc x c => ∀ cl d o F' H', Le F F' → Gh G B F' H' → F' p = none → H' p = some o → Rc G F' c o → Rx G F' x cl d → E cl d H'
  | .bad => False
def spB (G : Wo) (f : Fb) (n : Nat) : Sp := fun vs H Q E => ∃ (c : W) (p : Addr) (o : HO) (ws : List W) (vs' : List V) (B F : Hp), vs = .ref p :: vs' ∧ ws.length = n ∧ Gh G B F H ∧ F p = none ∧ B p = none ∧ H p = some o ∧ Rc G F c o ∧ Rvs G F ws vs' ∧ PoB G B F p E Q (f c ws)
def startB (n : Nat) (c : W) (ws : List W) : En := some (.b c) :: (ws.map (fun w => some (.v w)) ++ List.replicate (n - 1 - ws.length) none)
def lentOf (e : En) : Option W := match e with
  | some (.b w) :: _ => some w
  | _ => none
def endB : SR → Rb
  | .nx e => match lentOf e with
    | some c => .ok .non c
    | none => .bad
  | .ret w e => match lentOf e with
    | some c => .ok w c
    | none => .bad
  | .exc x e => match lentOf e with
    | some c => .exc x c
    | none => .bad
  | _ => .bad
def fnB (n : Nat) (f : FS) : Fb := fun c ws => endB (f (startB n c ws))
theorem startB_get {n : Nat} {c : W} {ws : List W} {i : Nat} {e : Ev} (h : (startB n c ws)[i]? = some (some e)) : (i = 0 ∧ e = .b c) ∨ ∃ j w, i = j + 1 ∧ ws[j]? = some w ∧ e = .v w := by
  cases i with
  | zero => cases h; exact .inl ⟨rfl, rfl⟩
  | succ j =>
    have h : (ws.map (fun w => some (Ev.v w)) ++ List.replicate (n - 1 - ws.length) none)[j]? = some (some e) := h
    refine .inr ⟨j, ?_⟩
    by_cases hi : j < ws.length
    · rw [List.getElem?_append_left (by simpa using hi), List.getElem?_map] at h
      cases q : ws[j]? with
      | none => rw [q] at h; cases h
      | some u => rw [q] at h; cases h; exact ⟨u, rfl, rfl, rfl⟩
    · rw [List.getElem?_append_right (by simpa using Nat.le_of_not_lt hi)] at h
      have z := List.mem_of_getElem? h
      rw [List.mem_replicate] at z
      cases z.2
theorem startB_at {S : Ctx} {B F H : Hp} {p : Addr} {o : HO} {c : W} {ws : List W} {vs : List V} (g : Gh S.g B F H) (hF : F p = none) (hB : B p = none) (hp : H p = some o) (rc : Rc S.g F c o) (r : Rvs S.g F ws vs) (hN : 0 < S.N.length) :
    At S ⟨B, fun _ => p⟩ (startB S.N.length c ws) F (L2.start S.N (.ref p :: vs)) H := by
  have s0 : (L2.start S.N (.ref p :: vs))[0]? = some (some (V.ref p)) := by
    unfold L2.start
    simp
  refine ⟨g.le, g.fr, g.dj, by simp [startB, L2.start, r.length]; omega, fun i w h => ?_, fun i e w h1 h2 => ?_, fun i w h => ?_, fun i j e e' w w' a h1 h2 h3 h4 _ _ => ?_, g.tb, g.bm, g.nt⟩
  · rcases startB_get h with ⟨_, z⟩ | ⟨j, u, rfl, e1, e2⟩
    · cases z
    · cases e2
      obtain ⟨v, h1, h2⟩ := r.get e1
      refine ⟨v, ?_, h2⟩
      unfold L2.start
      have hi := (List.getElem?_eq_some_iff.mp e1).1
      rw [List.map_cons, List.cons_append, List.getElem?_cons_succ, List.getElem?_append_left (by rw [List.length_map, r.length]; exact hi), List.getElem?_map, h1]
      rfl
  · rcases startB_get h1 with ⟨rfl, rfl⟩ | ⟨j, u, rfl, e1, rfl⟩
    · cases h2
      exact ⟨p, o, s0, hF, hB, hp, rc⟩
    · cases h2
  · rcases startB_get h with ⟨rfl, z⟩ | ⟨j, u, rfl, e1, e2⟩
    · exact s0
    · cases e2
  · rcases startB_get h1 with ⟨rfl, _⟩ | ⟨j, u, rfl, e1, rfl⟩
    · rcases startB_get h3 with ⟨rfl, _⟩ | ⟨j, u, rfl, e1, rfl⟩
      · rfl
      · cases h4
    · cases h2
theorem lent_ok {S : Ctx} {B : Hp} {p : Addr} {e : En} {F : Hp} {σ : L2.St} {H : Hp} {c : W} (a : At S ⟨B, fun _ => p⟩ e F σ H) (h : lentOf e = some c) : F p = none ∧ ∃ o, H p = some o ∧ Rc S.g F c o := by
  unfold lentOf at h
  split at h
  · rename_i w r
    cases h
    obtain ⟨q, o, e1, e2, e3, e4, e5⟩ := a.own 0 _ _ rfl rfl
    have z := a.lent 0 _ rfl
    rw [e1] at z
    cases z
    exact ⟨e2, o, e4, e5⟩
  · cases h
theorem endB_ok {S : Ctx} {B : Hp} {p : Addr} {F : Hp} {E : XK} {Q : VK} {r : SR} (po : PoB S.g B F p E Q (endB r)) : PoS S ⟨B, fun _ => p⟩ F (fun cls d _ H => E cls d H) { nx := fun _ H' => Q .non H', rt := Q } r := by
  cases r with
  | nx e =>
    unfold endB at po
    cases q : lentOf e with
    | none => simp only [q] at po; exact po.elim
    | some c =>
      simp only [q] at po
      intro F' σ' H' l a
      obtain ⟨h1, o, h2, h3⟩ := lent_ok a q
      exact po .non o F' H' l a.gh h1 h2 h3 .non
  | ret w e =>
    unfold endB at po
    cases q : lentOf e with
    | none => simp only [q] at po; exact po.elim
    | some c =>
      simp only [q] at po
      intro v F' σ' H' l a rv
      obtain ⟨h1, o, h2, h3⟩ := lent_ok a q
      exact po v o F' H' l a.gh h1 h2 h3 rv
  | exc x e =>
    unfold endB at po
    cases q : lentOf e with
    | none => simp only [q] at po; exact po.elim
    | some c =>
      simp only [q] at po
      intro cl d F' σ' H' l a rx
      obtain ⟨h1, o, h2, h3⟩ := lent_ok a q
      exact po cl d o F' H' l a.gh h1 h2 h3 rx
  | own w e => exact po.elim
  | brk e => exact po.elim
  | cnt e => exact po.elim
  | bad => exact po.elim
structure DefB (G : Wo) (lv : Nat) (x : Str) (n : Nat) (f : Fb) : Prop where
  ex : ∃ (fa : Addr) (fd : FuncData) (ps : List Str), ps.length = n + 1 ∧ FnG G.P G.w G.K G.mg G.base (L2.CX G.P G.w) lv fa fd ps (spB G f n) ∧ G.mg x = some (.ref fa) ∧ PySem.W.keepIn G.K (.ref fa) = true ∧ Binds G.K fd ps []
theorem DefB.cong {G : Wo} {lv n : Nat} {x : Str} {f f' : Fb} (d : DefB G lv x n f) (h : ∀ c ws, f' c ws ≠ .bad → f c ws = f' c ws) : DefB G lv x n f' := by
  obtain ⟨fa, fd, ps, hl, F, hm, hk, hb⟩ := d.ex
  refine ⟨fa, fd, ps, hl, F.imp fun vs H Q E ⟨c, p, o, ws, vs', B, F, ev, hn, g, h1, h2, h3, h4, rv, po⟩ => ⟨c, p, o, ws, vs', B, F, ev, hn, g, h1, h2, h3, h4, rv, ?_⟩, hm, hk, hb⟩
  rw [h c ws (fun e => by rw [e] at po; exact po)]
  exact po
theorem def_fnB {G : Wo} {x qual : Str} {stt : Stmt} {fa : Addr} {fd : FuncData} {N ps : List Str} {lv n : Nat} {f : FS} (Fu : L2.Fun G.K x qual stt fa fd) (sc : FnScope N ps (defScope stt)) (hb : RB ⟨G, N, defScope stt, lv, true, none, fun _ => false⟩ (defBody stt) f) (hn : ps.length = n + 1) (hN : 0 < N.length) :
    FnG G.P G.w G.K G.mg G.base (L2.CX G.P G.w) (lv + 1) fa fd ps (spB G (fnB N.length f) n) := by
  obtain ⟨oc, od, kV, doc, pm, an, cdv, ct, osl, rfl, lk, hcd⟩ := Fu.ex
  have len : ∀ vs H Q E, spB G (fnB N.length f) n vs H Q E → vs.length = ps.length := fun vs H Q E ⟨c, p, o, ws, vs', B, F, ev, hl, _, _, _, _, _, rv, _⟩ => by rw [ev, List.length_cons, rv.length, hl, hn]
  refine ⟨len, fun A outer s H args us vs Q E hr gd e0 hbn r hsp => LamX.run_ofS lk hcd sc hr e0 hbn r (len _ _ _ _ hsp) fun hr' => ?_⟩
  obtain ⟨c, p, o, ws, vs', B, F, rfl, hl, g, h1, h2, h3, h4, rv, po⟩ := hsp
  obtain ⟨t, h1, h2⟩ := hb (fun cls d _ H => E cls d H) ⟨B, fun _ => p⟩ (startB N.length c ws) F (L2.start N (.ref p :: vs')) H { nx := fun _ H' => Q .non H', rt := Q } (startB_at (S := ⟨G, N, defScope stt, lv, true, none, fun _ => false⟩) g h1 h2 h3 h4 rv hN) (endB_ok po)
  exact ⟨t, h1 _ ⟨rfl, rfl, rfl, rfl, rfl, rfl, sc.nd, rfl, rfl, hr', gd, fun _ _ => rfl, fun c P q z => (by cases z), fun _ => ⟨rfl, rfl⟩, takes_of rfl rfl rfl rfl, fun _ => passes_of rfl, fun _ z => (by cases z), held_of (takes_of rfl rfl rfl rfl) rfl, ⟨_, _, _, ⟨rfl, rfl, rfl⟩⟩⟩, h2⟩
theorem def_fnBL {G : Wo} {x qual : Str} {stt : Stmt} {fa c P : Addr} {kV doc pm ct oc : Value} {an od : Option Addr} {osl : Array (Option Value)} {N ps : List Str} {lv n : Nat} {f : FS} (lk : G.K.lookup fa = some ⟨oc, od, .func (PySem.W.fnOf x qual (defArgs stt) (defBody stt) (defScope stt) .none kV doc pm an (.ref c) ct), osl⟩)
    (hcd : PySem.W.codeIn G.K (.ref c) qual = true) (TB : LamX.TabB G.base G.mg c P) (sc : FnScope N ps (defScope stt)) (hb : RB ⟨G, N, defScope stt, lv, true, some (c, P, qual ++ ".<locals>."), fun _ => false⟩ (defBody stt) f) (hn : ps.length = n + 1) (hN : 0 < N.length) :
    FnG G.P G.w G.K G.mg G.base (L2.CX G.P G.w) (lv + 1) fa (PySem.W.fnOf x qual (defArgs stt) (defBody stt) (defScope stt) .none kV doc pm an (.ref c) ct) ps (spB G (fnB N.length f) n) := by
  have len : ∀ vs H Q E, spB G (fnB N.length f) n vs H Q E → vs.length = ps.length := fun vs H Q E ⟨c, p, o, ws, vs', B, F, ev, hl, _, _, _, _, _, rv, _⟩ => by rw [ev, List.length_cons, rv.length, hl, hn]
  refine ⟨len, fun A outer s H args us vs Q E hr gd e0 hbn r hsp => LamX.run_ofS lk hcd sc hr e0 hbn r (len _ _ _ _ hsp) fun hr' => ?_⟩
  obtain ⟨c0, p, o, ws, vs', B, F, rfl, hl, g, h1, h2, h3, h4, rv, po⟩ := hsp
  obtain ⟨t, h1, h2⟩ := hb (fun cls d _ H => E cls d H) ⟨B, fun _ => p⟩ (startB N.length c0 ws) F (L2.start N (.ref p :: vs')) H { nx := fun _ H' => Q .non H', rt := Q } (startB_at (S := ⟨G, N, defScope stt, lv, true, some (c, P, qual ++ ".<locals>."), fun _ => false⟩) g h1 h2 h3 h4 rv hN) (endB_ok po)
  exact ⟨t, h1 _ ⟨rfl, rfl, rfl, rfl, rfl, rfl, sc.nd, rfl, rfl, hr', gd, fun _ _ => rfl, fun c' P' q z => (by cases z; exact ⟨rfl, rfl, TB⟩), fun _ => ⟨rfl, rfl⟩, takes_of rfl rfl rfl rfl, fun _ => passes_of rfl, fun _ z => (by cases z), held_of (takes_of rfl rfl rfl rfl) rfl, ⟨_, _, _, ⟨rfl, rfl, rfl⟩⟩⟩, h2⟩
theorem def_okB {G : Wo} {x qual : Str} {stt : Stmt} {fa : Addr} {fd : FuncData} {N ps : List Str} {lv n : Nat} {f : FS} (Fu : L2.Fun G.K x qual stt fa fd) (sc : FnScope N ps (defScope stt)) (hb : RB ⟨G, N, defScope stt, lv, true, none, fun _ => false⟩ (defBody stt) f)
    (hm : G.mg x = some (.ref fa)) (b : Binds G.K fd ps []) (hn : ps.length = n + 1) (hN : 0 < N.length) : DefB G (lv + 1) x n (fnB N.length f) := ⟨fa, fd, ps, hn, def_fnB Fu sc hb hn hN, hm, Fu.kp, b⟩

/-! ### lending -/
def Rb.rs (r : Rb) (i : Nat) (e : En) : Rs W := match r with
  | .ok w c => .ok w (putW e i c)
  | .exc x c => .exc x (putW e i c)
  | .bad => .bad
/-- x(name, ..): the thing that the name holds alone is lent -/
def fCallB (n i : Nat) (f : Fb) (g : FA) : FE := fun env => match alW env i with
  | some _ => (g env).bind fun ws e1 => match alW e1 i with
    | some c => if ws.length = n then (f c ws).rs i e1 else .bad
    | none => .bad
  | none => .bad
/-- a state with what one name holds lent away -/
theorem At.lend {S : Ctx} {B : Fx} {env : En} {F : Hp} {σ : L2.St} {H : Hp} (a : At S B env F σ H) {i : Nat} {c : W} (h : alW env i = some c) : ∃ p o B', σ[i]? = some (some (V.ref p)) ∧ F p = none ∧ B' p = none ∧ H p = some o ∧ Rc S.g F c o ∧ Gh S.g B' F H ∧
    ∀ F' H' c' o', Le F F' → Gh S.g B' F' H' → F' p = none → H' p = some o' → Rc S.g F' c' o' → At S B (putW env i c') F' σ H' := by
  obtain ⟨e, he, hw, put⟩ := alW_ok h
  have hi : i < env.length := (List.getElem?_eq_some_iff.mp he).1
  obtain ⟨p, o, e1, e2, e3, e4, e5⟩ := a.own i e c he hw
  -- the state without that name
  have old : ∀ {j : Nat} {ev : Ev}, (env.set i none)[j]? = some (some ev) → i ≠ j ∧ env[j]? = some (some ev) := fun {j ev} h => by
    by_cases q : i = j
    · subst q; rw [List.getElem?_set_self hi] at h; cases h
    · rw [List.getElem?_set_ne q] at h; exact ⟨q, h⟩
  have aw : At S B (env.set i none) F σ H := ⟨a.le, a.fr, a.dj, by simp [a.len], fun j x q => a.val j x (old q).2, fun j ev x q z => a.own j ev x (old q).2 z, fun j x q => a.lent j x (old q).2, fun j k e e' x x' q h1 h2 h3 h4 => a.dis j k e e' x x' q (old h1).2 h2 (old h3).2 h4, a.tb, a.bm, a.nt⟩
  have fr : Free (env.set i none) σ p := fun j ev x h1 h2 h3 => (old h1).1 (a.dis i j e ev c x p he hw (old h1).2 h2 e1 h3)
  obtain ⟨B', hB', g, back⟩ := aw.call
  refine ⟨p, o, B', e1, e2, (hB' p).2 ⟨e3, fr⟩, e4, e5, g, fun F' H' c' o' l g' hF hp rc => ?_⟩
  have z := (back F' H' l g').setA (w := c') (ev0 := e.put c') i (by cases e <;> first | rfl | cases hw) (fun u q => ?_) hF e3 fr hp rc
  · have hs : σ.set i (some (V.ref p)) = σ := by
      refine List.ext_getElem? fun j => ?_
      by_cases q : i = j
      · subst q; rw [List.getElem?_set_self (by rw [← a.len]; exact hi), e1]
      · rw [List.getElem?_set_ne q]
    rw [hs, List.set_set] at z
    rw [put]
    exact z
  · cases e with
    | v _ => cases hw
    | o _ => cases q
    | b x =>
      have y := a.lent i x he
      rw [e1] at y
      cases y
      rfl
theorem spB_of {S : Ctx} {f : Fb} {n i : Nat} {B : Fx} {env : En} {F : Hp} {σ : L2.St} {H : Hp} {Q : VK} {Wd : XW} {c : W} {ws : List W} {vs : List V} {p : Addr} (a : At S B env F σ H) (h : alW env i = some c) (hp : σ[i]? = some (some (V.ref p))) (r : Rvs S.g F ws vs) (hn : ws.length = n) (q : Po S B σ F (Rv S.g) Wd Q ((f c ws).rs i env)) :
    spB S.g f n (.ref p :: vs) H Q Wd := by
  obtain ⟨p', o, B', e1, e2, e3, e4, e5, g, back⟩ := a.lend h
  rw [hp] at e1
  cases e1
  refine ⟨c, p, o, ws, vs, B', F, rfl, hn, g, e2, e3, e4, e5, r, ?_⟩
  cases e : f c ws with
  | ok w c' => rw [e] at q; exact fun v o' F' H' l g' hF hp rc rv => q v F' H' l (back F' H' c' o' l g' hF hp rc) rv
  | exc x c' => rw [e] at q; exact fun cl d o' F' H' l g' hF hp rc rx => q cl d F' H' l (back F' H' c' o' l g' hF hp rc) rx
  | bad => rw [e] at q; exact q
section
variable {S : Ctx} {pos p p2 : Pos} {es : List Expr} {g : FA} {x : Str}
/-- the first argument is a name whose thing is lent -/
theorem re_callB {n k i : Nat} {fn : Fb} {y : Str} (hc : DefB S.g k x n fn) (hk : k ≤ S.lv) (hg : S.sc.names.lookup x = some .globalImplicit) (hN : S.N[i]? = some y) (hv : Vis S.sc y) (ha : RA S es g)
    (hdy : (y == ("__debug__" : Str)) = false := by decide) (hcy : (y == ("__classdict__" : Str)) = false := by decide)
    (hd : (x == ("__debug__" : Str)) = false := by decide) (he : ∀ env : Env, starEach (.Name y p2 :: es) env = (false, eval (.Name y p2) env) :: starEach es env := by intro _; rfl) (hpl : ∀ env : Env, (backTo pos (starEach es env)).any (·.1) = false := by intro _; rfl) :
    RE S (.Call (.Name x p) (.Name y p2 :: es) [] pos) (fCallB n i fn g) := by
  intro W B env F σ H Q at_ q
  obtain ⟨fa, fd, ps, hl, Fg, hm, hkp, hb⟩ := hc.ex
  unfold fCallB at q
  refine ⟨tCallS (spB S.g fn n) (WE W) (tCons (tVar i) (UA S W es)), fun X ok => ?_, ?_⟩
  · exact pe_G (fng_of ok Fg) (ok.room.mono hk) ok.gd (gl_of ok hg) (by rw [ok.mg]; exact hm) (by rw [ok.K]; exact hkp) (by rw [ok.K]; exact hb) (fun σ => passAt ok.tk σ) (pa_cons (pe_var (by rw [ok.N]; exact hN) (by rw [ok.sc]; exact hv) hdy hcy) (ua_pa ok) (he _)) hd (he _) (hpl _)
  · split at q
    · rename_i c0 ec0
      obtain ⟨e, he, hw, _⟩ := alW_ok ec0
      obtain ⟨p, o, s1, _⟩ := at_.own i e c0 he hw
      refine ⟨.ref p, s1, ha W B env F σ H _ at_ (Po.bnd q fun ws e1 vs F1 H1 _ l1 a1 r1 q1 => ?_)⟩
      split at q1
      · rename_i c ec
        split at q1
        · rename_i hn
          exact spB_of a1 ec s1 r1 hn q1
        · exact q1.elim
      · exact q1.elim
    · exact q.elim
/-! ### a thing that only the callee gets -/
def Rb.rs0 (r : Rb) (e : En) : Rs W := match r with
  | .ok w _ => .ok w e
  | .exc x _ => .exc x e
  | .bad => .bad
def fCallBF (n : Nat) (f : Fb) (a : FE) (g : FA) : FE := fun env => (a env).bind fun c e1 => (g e1).bind fun ws e2 => if ws.length = n then (f c ws).rs0 e2 else .bad
theorem re_callBF {n k : Nat} {fn : Fb} {a0 : Expr} {fa0 : FE} (hc : DefB S.g k x n fn) (hk : k ≤ S.lv) (hg : S.sc.names.lookup x = some .globalImplicit) (h0 : RF S a0 fa0) (ha : RA S es g)
    (hd : (x == ("__debug__" : Str)) = false := by decide) (he : ∀ env : Env, starEach (a0 :: es) env = (false, eval a0 env) :: starEach es env := by intro _; rfl) (hpl : ∀ env : Env, (backTo pos (starEach es env)).any (·.1) = false := by intro _; rfl) :
    RE S (.Call (.Name x p) (a0 :: es) [] pos) (fCallBF n fn fa0 g) := by
  intro W B env F σ H Q at_ q
  obtain ⟨fa, fd, ps, hl, Fg, hm, hkp, hb⟩ := hc.ex
  refine ⟨tCallS (spB S.g fn n) (WE W) (tCons (UE S W a0) (UA S W es)), fun X ok => ?_, ?_⟩
  · exact pe_G (fng_of ok Fg) (ok.room.mono hk) ok.gd (gl_of ok hg) (by rw [ok.mg]; exact hm) (by rw [ok.K]; exact hkp) (by rw [ok.K]; exact hb) (fun σ => passAt ok.tk σ) (pa_cons (ue_pe ok) (ua_pa ok) (he _)) hd (he _) (hpl _)
  · unfold fCallBF at q
    have z : ∀ {r : Rs Pv.W} {k : Pv.W → En → Rs Pv.W} {Q1 : VK}, Po S B σ F (Rv S.g) (fun c d H' => W c d σ H') Q (r.bind k) → (∀ c e1 p o F1 H1, r = .ok c e1 → Le F F1 → At S B e1 F1 σ H1 → F1 p = none → B.B p = none → Free e1 σ p → H1 p = some o → Rc S.g F1 c o → Po S B σ F1 (Rv S.g) (fun c d H' => W c d σ H') Q (k c e1) → Q1 (.ref p) H1) → PoO S B σ F (fun c d H' => W c d σ H') Q1 r := fun {r k Q1} h hk => by
      cases r with
      | ok c e1 => exact fun p o F1 H1 l a f1 f2 f3 f4 rc => hk c e1 p o F1 H1 rfl l a f1 f2 f3 f4 rc (Po.at_ l h)
      | exc y e1 => exact h
      | bad => exact h
    refine h0 W B env F σ H _ at_ (z q fun c e1 p o F1 H1 _ l1 a1 f1 f2 f3 f4 rc q1 => ?_)
    -- the thing lies aside while the other arguments are read
    have a1' := a1.push rc.mu f1 f3 f4
    have lift : ∀ {r : Rs (List Pv.W)} {k : List Pv.W → En → Rs Pv.W} {Q1 : List V → Hp → Prop}, Po S B σ F1 (Rv S.g) (fun c d H' => W c d σ H') Q (r.bind k) → (∀ ws e2 vs F2 H2, r = .ok ws e2 → Le F1 F2 → At S { B with B := upd B.B p o } e2 F2 σ H2 → Rvs S.g F2 ws vs → Po S B σ F2 (Rv S.g) (fun c d H' => W c d σ H') Q (k ws e2) → Q1 vs H2) → Po S { B with B := upd B.B p o } σ F1 (Rvs S.g) (fun c d H' => W c d σ H') Q1 r := fun {r k Q1} h hk => by
      cases r with
      | ok ws e2 => exact fun vs F2 H2 l a rv => hk ws e2 vs F2 H2 rfl l a rv (Po.at_ l h)
      | exc y e2 => exact fun cl d F2 H2 l a rx => h cl d F2 H2 l (a.pop f2).1 rx
      | bad => exact h
    refine ha W _ e1 F1 σ H1 _ a1' (lift q1 fun ws e2 vs F2 H2 _ l2 a2 rv q2 => ?_)
    split at q2
    · rename_i hn
      obtain ⟨b, b1, b2, b3⟩ := a2.pop f2
      obtain ⟨B', hB', g', back⟩ := b.call
      refine ⟨c, p, o, ws, vs, B', F2, rfl, hn, g', b1, (hB' p).2 ⟨f2, b3⟩, b2, rc.le l2, rv, ?_⟩
      cases e : fn c ws with
      | ok w c' => rw [e] at q2; exact fun v o' F' H' l g'' hF hp rc' rv' => q2 v F' H' l (back F' H' l g'') rv'
      | exc y c' => rw [e] at q2; exact fun cl d o' F' H' l g'' hF hp rc' rx => q2 cl d F' H' l (back F' H' l g'') rx
      | bad => rw [e] at q2; exact q2
    · exact q2.elim
end

/-! ### a def that hands back a thing that only its caller has -/
def PoN (G : Wo) (B F : Hp) (E : XK) (Q : VK) : Rf → Prop
  | .ok w => ∀ p o F' H', Le F F' → Gh G B F' H' → F' p = none → B p = none → H' p = some o → Rc G F' w o → Q (.ref p) H'
  | .exc x => ∀ c d F' H', Le F F' → Gh G B F' H' → Rx G F' x c d → E c d H'
  | .bad => False
def spN (G : Wo) (f : Fn) (n : Nat) : Sp := fun vs H Q E => ∃ (ws : List W) (B F : Hp), ws.length = n ∧ Gh G B F H ∧ Rvs G F ws vs ∧ PoN G B F E Q (f ws)
def endN : SR → Rf
  | .own w _ => .ok w
  | .exc x _ => .exc x
  | _ => .bad
def fnN (n : Nat) (f : FS) : Fn := fun ws => endN (f (startE n ws))
theorem endN_ok {S : Ctx} {B : Hp} {ba : Nat → Addr} {F : Hp} {E : XK} {Q : VK} {r : SR} (po : PoN S.g B F E Q (endN r)) : PoS S ⟨B, ba⟩ F (fun cls d _ H => E cls d H) { nx := fun _ H' => Q .non H', rt := Q } r := by
  cases r with
  | own w e => exact fun p o F' σ' H' l a f1 f2 f3 f4 rc => po p o F' H' l a.gh f1 f2 f4 rc
  | exc x e => exact fun c d F' σ' H' l a rx => po c d F' H' l a.gh rx
  | ret w e => exact po.elim
  | nx e => exact po.elim
  | brk e => exact po.elim
  | cnt e => exact po.elim
  | bad => exact po.elim
structure DefN (G : Wo) (lv : Nat) (x : Str) (n : Nat) (f : Fn) : Prop where
  ex : ∃ (fa : Addr) (fd : FuncData) (ps : List Str), ps.length = n ∧ FnG G.P G.w G.K G.mg G.base (L2.CX G.P G.w) lv fa fd ps (spN G f n) ∧ G.mg x = some (.ref fa) ∧ PySem.W.keepIn G.K (.ref fa) = true ∧ Binds G.K fd ps []
theorem def_okN {G : Wo} {x qual : Str} {stt : Stmt} {fa : Addr} {fd : FuncData} {N ps : List Str} {lv : Nat} {f : FS} (Fu : L2.Fun G.K x qual stt fa fd) (sc : FnScope N ps (defScope stt)) (hb : RB ⟨G, N, defScope stt, lv, true, none, fun _ => false⟩ (defBody stt) f)
    (hm : G.mg x = some (.ref fa)) (b : Binds G.K fd ps []) : DefN G (lv + 1) x ps.length (fnN N.length f) := by
  refine ⟨fa, fd, ps, rfl, ?_, hm, Fu.kp, b⟩
  obtain ⟨oc, od, kV, doc, pm, an, cdv, ct, osl, rfl, lk, hcd⟩ := Fu.ex
  have len : ∀ vs H Q E, spN G (fnN N.length f) ps.length vs H Q E → vs.length = ps.length := fun vs H Q E ⟨ws, B, F, hl, _, rv, _⟩ => by rw [rv.length]; exact hl
  refine ⟨len, fun A outer s H args us vs Q E hr gd e0 hbn r hsp => LamX.run_ofS lk hcd sc hr e0 hbn r (len _ _ _ _ hsp) fun hr' => ?_⟩
  obtain ⟨ws, B, F, hl, g, rv, po⟩ := hsp
  obtain ⟨t, h1, h2⟩ := hb (fun cls d _ H => E cls d H) ⟨B, fun _ => 0⟩ (startE N.length ws) F (L2.start N vs) H { nx := fun _ H' => Q .non H', rt := Q } (start_at g rv) (endN_ok po)
  exact ⟨t, h1 _ ⟨rfl, rfl, rfl, rfl, rfl, rfl, sc.nd, rfl, rfl, hr', gd, fun _ _ => rfl, fun c P q z => (by cases z), fun _ => ⟨rfl, rfl⟩, takes_of rfl rfl rfl rfl, fun _ => passes_of rfl, fun _ z => (by cases z), held_of (takes_of rfl rfl rfl rfl) rfl, ⟨_, _, _, ⟨rfl, rfl, rfl⟩⟩⟩, h2⟩
theorem DefN.cong {G : Wo} {lv n : Nat} {x : Str} {f f' : Fn} (d : DefN G lv x n f) (h : ∀ ws, f' ws ≠ .bad → f ws = f' ws) : DefN G lv x n f' := by
  obtain ⟨fa, fd, ps, hl, F, hm, hk, hb⟩ := d.ex
  refine ⟨fa, fd, ps, hl, F.imp fun vs H Q E ⟨ws, B, F, hn, g, rv, po⟩ => ⟨ws, B, F, hn, g, rv, ?_⟩, hm, hk, hb⟩
  rw [h ws (fun e => by rw [e] at po; exact po)]
  exact po
theorem rf_call {S : Ctx} {pos p : Pos} {e : Expr} {es : List Expr} {g : FA} {x : Str} {n k : Nat} {fn : Fn} (hc : DefN S.g k x n fn) (hk : k ≤ S.lv) (hg : S.sc.names.lookup x = some .globalImplicit) (ha : RA S (e :: es) g)
    (hd : (x == ("__debug__" : Str)) = false := by decide) (he : ∀ env : Env, starEach (e :: es) env = (false, eval e env) :: starEach es env := by intro _; rfl) (hpl : ∀ env : Env, (backTo pos (starEach es env)).any (·.1) = false := by intro _; rfl) :
    RF S (.Call (.Name x p) (e :: es) [] pos) (fCallN n fn g) := by
  intro W B env F σ H Q at_ q
  obtain ⟨fa, fd, ps, hl, Fg, hm, hkp, hb⟩ := hc.ex
  refine ⟨tCallS (spN S.g fn n) (WE W) (UA S W (e :: es)), fun X ok => ?_, ha W B env F σ H _ at_ (Po.bndO q fun ws e1 vs F1 H1 _ l1 a1 r1 q1 => ?_)⟩
  · exact pe_G (fng_of ok Fg) (ok.room.mono hk) ok.gd (gl_of ok hg) (by rw [ok.mg]; exact hm) (by rw [ok.K]; exact hkp) (by rw [ok.K]; exact hb) (fun σ => passAt ok.tk σ) (ua_pa ok) hd (he _) (hpl _)
  · split at q1
    · rename_i hn
      obtain ⟨B', hB', g', back⟩ := a1.call
      refine ⟨ws, B', F1, hn, g', r1, ?_⟩
      cases er : fn ws with
      | ok w =>
        rw [er] at q1
        intro p o F' H' l g'' f1 f2 f3 rc
        have a2 := back F' H' l g''
        obtain ⟨hBp, hfr⟩ := (hB' p).1 f2
        exact q1 p o F' H' l a2 f1 hBp hfr f3 rc
      | exc y => rw [er] at q1; exact fun c d F' H' l g'' rx => q1 c d F' H' l (back F' H' l g'') rx
      | bad => rw [er] at q1; exact q1
    · exact q1.elim
end Pv
namespace Pv
open PySem PySem.Spec PyProof.Rows L2

section
variable {S : Ctx} {pos p : Pos} {o e : Expr} {f : FE}
/-! ### methods that change a list -/
theorem At.alone {B : Fx} {env : En} {F : Hp} {σ : L2.St} {H : Hp} (a : At S B env F σ H) {i : Nat} {w : W} (h : alW env i = some w) : ∃ q u, σ[i]? = some (some (V.ref q)) ∧ F q = none ∧ H q = some u ∧ Rc S.g F w u := by
  obtain ⟨ev, he, hw, _⟩ := alW_ok h
  obtain ⟨q, u, e1, e2, e3, e4, e5⟩ := a.own i ev w he hw
  exact ⟨q, u, e1, e2, e4, e5⟩
theorem At.putW {B : Fx} {env : En} {F : Hp} {σ : L2.St} {H : Hp} (a : At S B env F σ H) {i : Nat} {w w' : W} {q : Addr} {u' : HO} (h : alW env i = some w) (hq : σ[i]? = some (some (V.ref q))) (rc : Rc S.g F w' u') : At S B (Pv.putW env i w') F σ (upd H q u') := by
  obtain ⟨ev, he, hw, put⟩ := alW_ok h
  rw [put]
  exact a.put he hw hq rc
def lstW : W → Option (List W)
  | .lst xs => some xs
  | _ => none
/-- what a list that a name holds alone becomes by a method with one argument; and the method's answer -/
def fMet (i : Nat) (h : List W → W → Option (W × List W)) (f : FE) : FE := fun env => match alW env i with
  | some (.lst _) => (f env).bind fun y e1 => match alW e1 i with
    | some (.lst xs) => match h xs y with
      | some (r, ys) => .ok r (putW e1 i (.lst ys))
      | none => .bad
    | _ => .bad
  | _ => .bad
def hApp (xs : List W) (y : W) : Option (W × List W) := if xs.length < sizeLine then some (.non, xs ++ [y]) else none
def hExt (xs : List W) (y : W) : Option (W × List W) := match y with
  | .lst ys => if xs.length + ys.length ≤ sizeLine then some (.non, xs ++ ys) else none
  | _ => none
theorem met_rd {i : Nat} {h : List W → W → Option (W × List W)} {r : V → List V → Hp → VK → Prop} (he : RE S e f)
    (hr : ∀ {F H : Hp} {q : Addr} {xs ys : List W} {y w : W} {us : List V} {vy : V} {Q : VK}, Le F H → H q = some (.lst us) → Rvs S.g F xs us → xs.length ≤ sizeLine → Rv S.g F y vy → h xs y = some (w, ys) → (∀ vs v, Rvs S.g F ys vs → ys.length ≤ sizeLine → Rv S.g F w v → Q v (upd H q (.lst vs))) → r (.ref q) [vy] H Q)
    {W : WX} {B : Fx} {env : En} {F : Hp} {σ : L2.St} {H : Hp} {Q : VK} (at_ : At S B env F σ H) (q : Po S B σ F (Rv S.g) (fun c d H' => W c d σ H') Q (fMet i h f env)) : tBM S.g.K "list" r (tVar i) (tCons (UE S W e) tNil) σ H Q := by
  unfold fMet at q
  split at q
  · rename_i ws0 ea
    obtain ⟨p0, u0, s0, h0, h1, h2⟩ := at_.alone ea
    cases h2 with
    | lst r0 l0 =>
      refine ⟨.ref p0, s0, .inl ⟨rfl, _, .of h1⟩, ?_⟩
      refine he W B env F σ H _ at_ (Po.bnd q fun y e1 vy F1 H1 _ l1 a1 r1 q1 => ?_)
      split at q1
      · rename_i xs eb
        obtain ⟨p1, u1, s1, k0, k1, k2⟩ := a1.alone eb
        rw [s0] at s1
        cases s1
        cases k2 with
        | lst rx lx =>
          split at q1
          · rename_i w ys eh
            exact hr a1.le k1 rx lx r1 eh fun vs v rv lv rw_ => q1 v F1 _ (.refl _) (a1.putW eb s0 (.lst rv lv)) rw_
          · exact q1.elim
      · exact q1.elim
  · exact q.elim
theorem re_app {i : Nat} {x : Str} {p2 apos : Pos} (hN : S.N[i]? = some x) (hv : Vis S.sc x) (he : RE S e f) (hd : (x == ("__debug__" : Str)) = false := by decide) (hcd : (x == ("__classdict__" : Str)) = false := by decide)
    (h1 : ∀ env : Env, attributeBase (.Name x p2) ("append" : Str) env (eval (.Name x p2) env) = eval (.Name x p2) env := by intro _; rfl)
    (h2 : ∀ env : Env, ((((backTo pos (starEach (e :: []) env)).all fun x => !x.1) && (backToKw pos (keywordEach [] env)).all fun x => x.1.isSome) && decide (((e :: ([] : List Expr)).length + ([] : List Keyword).length + if ([] : List Keyword).isEmpty = true then 0 else 1) < 30)) = true := by intro _; rfl)
    (h3 : (apos.endLine == pos.line) = true := by rfl) (h4 : ∀ env : Env, starEach (e :: []) env = (false, eval e env) :: starEach [] env := by intro _; rfl) (h5 : ∀ env : Env, (backTo pos (starEach ([] : List Expr) env)).any (·.1) = false := by intro _; rfl) :
    RE S (.Call (.Attribute (.Name x p2) ("append" : Str) apos) [e] [] pos) (fMet i hApp f) := by
  intro W B env F σ H Q at_ q
  refine ⟨tBM S.g.K "list" rAppend (tVar i) (tCons (UE S W e) tNil), fun X ok => ?_, met_rd he (fun l hq rx lx ry eh k => ?_) at_ q⟩
  · have z := pe_bm (X := X) (o := .Name x p2) (e := e) (es := []) (apos := apos) (cpos := pos) PySem.F.plainAttrs_list PySem.F.slot_list_append PySem.F.type_list_append mt_append (pe_var (i := i) (by rw [ok.N]; exact hN) (by rw [ok.sc]; exact hv) hd hcd) (pa_cons (ue_pe (S := S) (W := W) ok) pa_nil (h4 _)) (h1 _) (h2 _) h3 (h4 _) (h5 _)
    rw [ok.K] at z
    exact z
  · unfold hApp at eh
    split at eh
    · rename_i hl
      cases eh
      exact ⟨_, _, _, rfl, rfl, hq, by rw [rx.length]; exact hl, k _ _ (rx.append (.cons ry .nil)) (by simp; omega) .non⟩
    · cases eh
theorem re_ext {i : Nat} {x : Str} {p2 apos : Pos} (hN : S.N[i]? = some x) (hv : Vis S.sc x) (he : RE S e f) (hd : (x == ("__debug__" : Str)) = false := by decide) (hcd : (x == ("__classdict__" : Str)) = false := by decide)
    (h1 : ∀ env : Env, attributeBase (.Name x p2) ("extend" : Str) env (eval (.Name x p2) env) = eval (.Name x p2) env := by intro _; rfl)
    (h2 : ∀ env : Env, ((((backTo pos (starEach (e :: []) env)).all fun x => !x.1) && (backToKw pos (keywordEach [] env)).all fun x => x.1.isSome) && decide (((e :: ([] : List Expr)).length + ([] : List Keyword).length + if ([] : List Keyword).isEmpty = true then 0 else 1) < 30)) = true := by intro _; rfl)
    (h3 : (apos.endLine == pos.line) = true := by rfl) (h4 : ∀ env : Env, starEach (e :: []) env = (false, eval e env) :: starEach [] env := by intro _; rfl) (h5 : ∀ env : Env, (backTo pos (starEach ([] : List Expr) env)).any (·.1) = false := by intro _; rfl) :
    RE S (.Call (.Attribute (.Name x p2) ("extend" : Str) apos) [e] [] pos) (fMet i hExt f) := by
  intro W B env F σ H Q at_ q
  refine ⟨tBM S.g.K "list" rExtend (tVar i) (tCons (UE S W e) tNil), fun X ok => ?_, met_rd he (fun l hq rx lx ry eh k => ?_) at_ q⟩
  · have z := pe_bm (X := X) (o := .Name x p2) (e := e) (es := []) (apos := apos) (cpos := pos) PySem.F.plainAttrs_list PySem.F.slot_list_extend PySem.F.type_list_extend mt_extend (pe_var (i := i) (by rw [ok.N]; exact hN) (by rw [ok.sc]; exact hv) hd hcd) (pa_cons (ue_pe (S := S) (W := W) ok) pa_nil (h4 _)) (h1 _) (h2 _) h3 (h4 _) (h5 _)
    rw [ok.K] at z
    exact z
  · unfold hExt at eh
    split at eh
    · split at eh
      · rename_i hl
        cases eh
        cases ry with
        | lst hy rys => exact ⟨_, _, _, _, rfl, rfl, hq, l _ _ hy, by rw [rx.length, rys.length]; exact hl, k _ _ (rx.append rys) (by simp; omega) .non⟩
      · cases eh
    · cases eh

/-! ### a key of a dict is stored -/
def repD (x w : W) : List (W × W) → List (W × W)
  | [] => []
  | (k, v) :: r => (match eqK k x with
    | true => (k, w)
    | false => (k, v)) :: repD x w r
def putD (x w : W) (kvs : List (W × W)) : List (W × W) := match lkW x kvs with
  | some _ => repD x w kvs
  | none => kvs ++ [(x, w)]
theorem rep_gen {κ : Type} [DecidableEq κ] {G : Wo} {F : Hp} {ι : κ → W} (hι : ∀ a b, eqK (ι a) (ι b) = decide (a = b)) {k : κ} {w : W} {v : V} (rw_ : Rv G F w v) : ∀ {kvs : List (W × W)} {hk : List (κ × V)}, kvs.map (·.1) = hk.map (fun p => ι p.1) → Rvs G F (kvs.map (·.2)) (hk.map (·.2)) →
    (repD (ι k) w kvs).map (·.1) = (hk.map fun kv => if kv.1 = k then (kv.1, v) else kv).map (fun p => ι p.1) ∧ Rvs G F ((repD (ι k) w kvs).map (·.2)) ((hk.map fun kv => if kv.1 = k then (kv.1, v) else kv).map (·.2))
  | [], [], _, _ => ⟨rfl, .nil⟩
  | [], _ :: _, e, _ => by cases e
  | _ :: _, [], e, _ => by cases e
  | (x, u) :: r, (j, y) :: q, e, rv => by
    simp only [List.map_cons, List.cons.injEq] at e
    obtain ⟨rfl, e⟩ := e
    cases rv with
    | cons r1 r2 =>
      obtain ⟨h1, h2⟩ := rep_gen hι (k := k) rw_ e r2
      simp only [repD, hι, List.map_cons]
      by_cases h : j = k
      · subst h
        simp only [decide_true, if_pos]
        exact ⟨by rw [h1], .cons rw_ h2⟩
      · simp only [decide_eq_false h, if_neg h]
        exact ⟨by rw [h1], .cons r1 h2⟩
theorem lk_gen {κ : Type} [DecidableEq κ] {ι : κ → W} (hι : ∀ a b, eqK (ι a) (ι b) = decide (a = b)) {k : κ} : ∀ {kvs : List (W × W)} {hk : List (κ × V)}, kvs.map (·.1) = hk.map (fun p => ι p.1) → (lkW (ι k) kvs).isSome = hk.any fun kv => decide (kv.1 = k)
  | [], [], _ => rfl
  | [], _ :: _, e => by cases e
  | _ :: _, [], e => by cases e
  | (x, u) :: r, (j, y) :: q, e => by
    simp only [List.map_cons, List.cons.injEq] at e
    obtain ⟨rfl, e⟩ := e
    simp only [lkW, hι, List.any_cons]
    by_cases h : j = k
    · simp [decide_eq_true h]
    · simp only [decide_eq_false h, Bool.false_or]
      exact lk_gen hι e
theorem put_gen {κ : Type} [DecidableEq κ] {G : Wo} {F : Hp} {ι : κ → W} (hι : ∀ a b, eqK (ι a) (ι b) = decide (a = b)) {k : κ} {w : W} {v : V} (rw_ : Rv G F w v) {kvs : List (W × W)} {hk : List (κ × V)} (e : kvs.map (·.1) = hk.map (fun p => ι p.1)) (rs : Rvs G F (kvs.map (·.2)) (hk.map (·.2))) :
    (putD (ι k) w kvs).map (·.1) = (putK hk k v).map (fun p => ι p.1) ∧ Rvs G F ((putD (ι k) w kvs).map (·.2)) ((putK hk k v).map (·.2)) := by
  have z := lk_gen hι (k := k) e
  unfold putD putK
  split
  · rename_i h
    rw [h] at z
    rw [if_pos (by rw [← z]; rfl)]
    exact rep_gen hι rw_ e rs
  · rename_i h
    rw [h] at z
    rw [if_neg (by rw [← z]; exact Bool.false_ne_true)]
    refine ⟨by simp [e], ?_⟩
    rw [List.map_append, List.map_append]
    exact rs.append (.cons rw_ .nil)
/-- an empty dict can be seen either way -/
theorem k2t {X : Cx} {pins : List (Addr × Obj)} {σ : L2.St} {H : Hp} {s : Shared} {q : Addr} (I : Inv X pins σ H s) (h : H q = some (.dK [])) : Inv X pins σ (upd H q (.dT [])) s := by
  have x : ObjOk X.prog X.w H s.heap q (.dK []) := I.hok q _ h
  obtain ⟨z, hs, vs, kv, ob, es, ep, e1, e2, e3, e4, e5, e6⟩ := x
  cases kv
  have ze : es.toList = [] := by
    cases q : es.toList with
    | nil => rfl
    | cons y r => rw [q] at e5; cases e5
  have new : ObjOk X.prog X.w (upd H q (.dT [])) s.heap q (.dT []) := ⟨z, hs, [], .nil, ob, es, ep, e1, e2, e3, by rw [ze]; rfl, by simp⟩
  exact I.write (x := q) (e := q) (t' := s.toks) (h' := s.heap) (by rw [h]; exact True.intro) (.inl rfl) (fun b v _ q => q) ⟨_, e1⟩ new
def DPutZ (H : Hp) (a : Addr) (y v : V) (H' : Hp) : Prop := DPut H a y v H' ∨ (H a = some (.dK []) ∧ DPut (upd H a (.dT [])) a y v H')
def sDPutZ (td ty tv : TE) : TS := fun D σ H => tv σ H fun v H1 => td σ H1 fun x H2 => ty σ H2 fun y H3 => ∃ a H4, x = .ref a ∧ DPutZ H3 a y v H4 ∧ D.nx σ H4
theorem ps_dputZ {X : Cx} {o i value : Expr} {td ty tv : TE} {pos pos' : Pos} (hu : X.A.units + 1 < cLine) (ho : PE X o td) (hi : PE X i ty) (hv : PE X value tv) (hs : swapsWith value (some (.Subscript o i pos')) pos.line X.env = pure false) :
    PS X (.Assign [.Subscript o i pos'] value pos) (sDPutZ td ty tv) := by
  refine ⟨fun pins s σ H D I h => ?_⟩
  refine wpAny_Assign_Subscript (thn (hv.run pins s σ H _ I h) fun r s1 ⟨v, H1, I1, rv, q1⟩ => thn (ho.run pins s1 σ H1 _ I1 q1) fun u s2 ⟨x, H2, I2, rx, q2⟩ => thn (hi.run pins s2 σ H2 _ I2 q2) fun iv s3 ⟨y, H3, I3, ry, a, H4, ex, g, q3⟩ => ?_) hs
  subst ex
  obtain rfl : u = Value.ref a := rx
  rcases g with g | ⟨ha, g⟩
  · exact d_setItem hu I3 g ry rv fun s4 I4 => ⟨σ, H4, I4, q3⟩
  · exact d_setItem hu (k2t I3 ha) g ry rv fun s4 I4 => ⟨σ, H4, I4, q3⟩
/-- whether a key fits a dict -/
def fitK (kvs : List (W × W)) (x : W) : Bool := match kindK x with
  | some b => match kvs with
    | [] => true
    | _ => b == kindD kvs
  | none => false
/-- x[k] = e, x having its list or dict alone -/
def sSetI (i : Nat) (fa fk : FE) : FS := fun env => (fa env).thn fun w e1 => match alW e1 i with
  | some _ => (fk e1).thn fun k e2 => match alW e2 i with
    | some (.lst xs) => match k with
      | .int j => match ixN xs.length j with
        | some n => .nx (putW e2 i (.lst (xs.set n w)))
        | none => .bad
      | _ => .bad
    | some (.dic kvs) => if fitK kvs k = true ∧ kvs.length < sizeLine then .nx (putW e2 i (.dic (putD k w kvs))) else .bad
    | _ => .bad
  | none => .bad
theorem dput_ok {F H : Hp} {q : Addr} {u : HO} {kvs : List (W × W)} {k w : W} {vk v : V} (l : Le F H) (hF : F q = none) (hq : H q = some u) (rc : Rc S.g F (.dic kvs) u) (rk : Rv S.g F k vk) (rw_ : Rv S.g F w v) (fit : fitK kvs k = true) (hl : kvs.length < sizeLine) :
    ∃ H4 u4, DPutZ H q vk v H4 ∧ H4 = upd H q u4 ∧ Rc S.g F (.dic (putD k w kvs)) u4 := by
  unfold fitK at fit
  split at fit
  case h_2 => cases fit
  rename_i b eb
  have nput : putD k w kvs ≠ [] := by
    unfold putD
    split
    · rename_i z
      cases kvs with
      | nil => cases z
      | cons p r => obtain ⟨p1, p2⟩ := p; simp [repD]
    · simp
  cases b with
  | false =>
    obtain ⟨kk, rfl, rfl⟩ : ∃ kk : Key, k = kW kk ∧ vk = kV kk := by
      cases rk <;> simp [kindK] at eb
      · exact ⟨.inl _, rfl, rfl⟩
      · exact ⟨.inr _, rfl, rfl⟩
      · split at eb <;> simp at eb
    obtain ⟨hk, rfl, e, r⟩ : ∃ hk, u = .dK hk ∧ kvs.map (·.1) = hk.map (fun p => kW p.1) ∧ Rvs S.g F (kvs.map (·.2)) (hk.map (·.2)) := by
      cases rc with
      | dK e r => exact ⟨_, rfl, e, r⟩
      | dT ne e r =>
        have kd := kind_dT e ne
        cases kvs with
        | nil => exact absurd rfl ne
        | cons p r' =>
          simp only at fit
          rw [kd] at fit
          cases fit
    obtain ⟨p1, p2⟩ := put_gen (ι := kW) eqK_k (k := kk) rw_ e r
    have hlen : hk.length < sizeLine := by
      have := congrArg List.length e
      simp at this
      omega
    exact ⟨_, _, .inl (.inl ⟨hk, kk, hq, rfl, hlen, rfl⟩), rfl, .dK p1 p2⟩
  | true =>
    obtain ⟨ks, c, rfl, rfl, hc⟩ : ∃ (ks : List Key) (c : Addr), k = tW ks ∧ vk = .ref c ∧ F c = some (.tup (ks.map kV)) := by
      cases rk <;> simp [kindK] at eb
      rename_i ws c vs h1 h2
      split at eb
      · rename_i ks ek
        have ew := keysOf_ok ek
        subst ew
        have ev := rv_tup h2
        subst ev
        exact ⟨ks, c, rfl, rfl, h1⟩
      · simp at eb
    have nc : c ≠ q := fun z => by rw [z, hF] at hc; cases hc
    cases rc with
    | dT ne e r =>
      rename_i hk
      obtain ⟨p1, p2⟩ := put_gen (ι := tW) eqK_t (k := ks) rw_ e r
      have hlen : hk.length < sizeLine := by
        have := congrArg List.length e
        simp at this
        omega
      exact ⟨_, _, .inl (.inr ⟨hk, ks, c, hq, rfl, l _ _ hc, hlen, rfl⟩), rfl, .dT nput p1 p2⟩
    | dK e r =>
      rename_i hk
      cases kvs with
      | nil =>
        have hk0 : hk = [] := by cases hk with | nil => rfl | cons _ _ => cases e
        subst hk0
        obtain ⟨p1, p2⟩ := put_gen (ι := tW) eqK_t (k := ks) (kvs := ([] : List (W × W))) (hk := ([] : List (List Key × V))) rw_ rfl .nil
        refine ⟨_, _, .inr ⟨hq, .inr ⟨[], ks, c, upd_same, rfl, by rw [upd_ne nc]; exact l _ _ hc, by decide, rfl⟩⟩, ?_, .dT nput p1 p2⟩
        rw [upd_upd]
      | cons p r' =>
        have := kind_dK e
        simp only at fit
        rw [this] at fit
        cases fit
theorem rs_seti {i : Nat} {x : Str} {p2 : Pos} {k : Expr} {fa fk : FE} (hN : S.N[i]? = some x) (hv : Vis S.sc x) (ha : RE S e fa) (hk : RE S k fk) (hd : (x == ("__debug__" : Str)) = false := by decide) (hcd : (x == ("__classdict__" : Str)) = false := by decide)
    (ha2 : ∀ (env : Env) v, assign (.Subscript (.Name x p2) k p) env v = (do
      let ov ← holding [v] (eval (.Name x p2) env)
      let iv ← holding [v, ov] (eval k env)
      standAt p
      holding [v, ov, iv] (setItem ov iv v)
      release [v, ov, iv] []) := by intro _ _; rfl)
    (hs : ∀ env : Env, swapsWithSole [.Subscript (.Name x p2) k p] e pos.line env = pure false := by intro _; rfl) (hw : ∀ env : Env, swappedStores [.Subscript (.Name x p2) k p] e env = pure none := by intro _; rfl)
    (hs2 : ∀ env : Env, swapsWith e (some (.Subscript (.Name x p2) k p)) pos.line env = pure false := by intro _; rfl)
    (h1 : ∀ env : Env, (assignEach [.Subscript (.Name x p2) k p] env).map (·.2) = [assign (.Subscript (.Name x p2) k p) env] := by intro _; rfl) : RS S (.Assign [.Subscript (.Name x p2) k p] e pos) (sSetI i fa fk) := by
  intro W B env F σ H D at_ h
  unfold sSetI at h
  have var : ∀ {X : Cx}, S.Ok W X → PE X (.Name x p2) (tVar i) := fun ok => pe_var (i := i) (by rw [ok.N]; exact hN) (by rw [ok.sc]; exact hv) hd hcd
  by_cases hdic : ∃ w e1 kk e2 kvs, fa env = .ok w e1 ∧ fk e1 = .ok kk e2 ∧ alW e2 i = some (.dic kvs)
  · obtain ⟨w0, e10, k0, e20, kvs0, c1, c2, c3⟩ := hdic
    refine ⟨sDPutZ (tVar i) (UE S W k) (UE S W e), fun X ok => ps_dputZ (by have := ok.room.un; omega) (var ok) (ue_pe ok) (ue_pe ok) (hs2 _), ha W B env F σ H _ at_ (Po.stm h fun w e1 v F1 H1 ex l1 a1 r1 q1 => ?_)⟩
    rw [c1] at ex
    cases ex
    split at q1
    case h_2 => exact q1.elim
    rename_i c0 ec0
    obtain ⟨q, u, s0, g1, g2, g3⟩ := a1.alone ec0
    refine ⟨.ref q, s0, hk W B e10 F1 σ H1 _ a1 (Po.stm q1 fun kk e2 vk F2 H2 ex l2 a2 r2 q2 => ?_)⟩
    rw [c2] at ex
    cases ex
    rw [c3] at q2
    dsimp only at q2
    split at q2
    · rename_i cond
      obtain ⟨q', u', s1, f1, f2, f3⟩ := a2.alone c3
      rw [s0] at s1
      cases s1
      obtain ⟨H4, u4, d1, rfl, d3⟩ := dput_ok a2.le f1 f2 f3 r2 (r1.le l2) cond.1 cond.2
      exact ⟨q, _, rfl, d1, q2 F2 σ _ (.refl _) (a2.putW c3 s0 d3)⟩
    · exact q2.elim
  · refine ⟨tAsg (UE S W e) (gSub (tVar i) (UE S W k) rSetL), fun X ok => ps_asg (ue_pe ok) (pg_sub (var ok) (ue_pe ok) set_list (ha2 _)) (hs _) (hw _) (h1 _), ha W B env F σ H _ at_ (Po.stm h fun w e1 v F1 H1 ex1 l1 a1 r1 q1 => ?_)⟩
    split at q1
    case h_2 => exact q1.elim
    rename_i c0 ec0
    obtain ⟨q, u, s0, g1, g2, g3⟩ := a1.alone ec0
    refine ⟨.ref q, s0, hk W B e1 F1 σ H1 _ a1 (Po.stm q1 fun kk e2 vk F2 H2 ex2 l2 a2 r2 q2 => ?_)⟩
    split at q2
    · rename_i xs ex
      split at q2
      · rename_i j
        split at q2
        · rename_i m hm
          obtain ⟨q', u', s1, f1, f2, f3⟩ := a2.alone ex
          rw [s0] at s1
          cases s1
          cases r2
          cases f3 with
          | lst rx lx =>
            exact ⟨_, _, _, _, rfl, rfl, f2, by rw [rx.length]; exact hm, q2 F2 σ _ (.refl _) (a2.putW ex s0 (.lst (rx.set (r1.le l2) m) (by simpa using lx)))⟩
        · exact q2.elim
      · exact q2.elim
    · rename_i kvs ex
      exact absurd ⟨w, e1, kk, e2, kvs, ex1, ex2, ex⟩ hdic
    · exact q2.elim
end
end Pv
namespace Pv
open PySem PySem.Spec PyProof.Rows L2 LamX
open Pg (OxC Tl pmk_x tMx onE offE wTries NmOk ps_tries hearX pe_lm tLm act_lam tBi tXst pe_bi pe_bo ps_xst RefsTo)

/-! ### raise -/
/-- __init__ of an own error: one field -/
def spI (C : Addr) (f : Str) : Sp := fun vs H Q _ => ∃ (a : Addr) (y : V), vs = [.ref a, y] ∧ H a = some (exo a C none) ∧ ∀ dx, H dx = none → dx ≠ a → Q .non (upd (upd H dx (exd dx [(f, y)])) a (exo a C (some dx)))
/-- x(w): an own error that keeps w as its f -/
structure MkOk (G : Wo) (lv : Nat) (x f : Str) : Prop where
  ex : ∃ (C fI : Addr) (fd : FuncData) (ps : List Str) (B nw ini : String) (tl : List Value), ExcBaseFacts B nw ini tl ∧ OxC G.K C nw tl ∧ G.mg x = some (.ref C) ∧ PySem.W.findIn G.K (.ref C) "__init__" = some (some (.ref fI)) ∧
    PySem.W.typeIn G.K (.ref fI) = some (.type "function") ∧ FnOk G.P G.w G.K G.mg G.base (L2.CX G.P G.w) lv fI fd ps (spI C f) ∧ Binds G.K fd ps []
/-- x('..'): an own error without an own start -/
structure Mk0Ok (G : Wo) (x : Str) : Prop where
  ex : ∃ (C : Addr) (B nw ini : String) (tl : List Value), ExcBaseFacts B nw ini tl ∧ PySem.W.excIn G.K C tl nw = true ∧ G.mg x = some (.ref C) ∧ PySem.W.keepIn G.K (.ref C) = true ∧
    PySem.W.subIn G.K (.ref C) (.type "BaseException") = some true ∧ PySem.W.typeIn G.K (.ref C) = some (.type "type")
abbrev FX := En → Rs XV
def RxP (S : Wo) : Hp → XV → Value × Option Addr → Prop := fun F x p => Rx S F x p.1 p.2
def UM (S : Ctx) (W : WX) (e : Expr) : L2.St → Hp → XK → Prop := fun σ H Q => ∃ t, (∀ X, S.Ok W X → PMk X e t) ∧ t σ H Q
theorem um_pmk {S : Ctx} {W : WX} {X : Cx} {e : Expr} (ok : S.Ok W X) : PMk X e (UM S W e) := fun pins s σ H Q I ⟨t, h, q⟩ => h X ok pins s σ H Q I q
def RM (S : Ctx) (e : Expr) (f : FX) : Prop := ∀ (W : WX) B env F σ H (Q : XK), At S B env F σ H → Po S B σ F (RxP S.g) (fun c d H' => W c d σ H') (fun p H' => Q p.1 p.2 H') (f env) → UM S W e σ H Q
def fMk (x f : Str) (g : FA) : FX := fun env => (g env).bind fun ws e1 => match ws with
  | [w] => .ok ⟨x, some (f, w)⟩ e1
  | _ => .bad
def fMk0 (x : Str) : FX := fun env => .ok ⟨x, none⟩ env
def sRaise (f : FX) : FS := fun env => match f env with
  | .ok x e => .exc x e
  | .exc x e => .exc x e
  | .bad => .bad
section
variable {S : Ctx} {pos p : Pos} {e : Expr} {es : List Expr} {g : FA} {x f : Str}
theorem rm_mk {k : Nat} (hc : MkOk S.g k x f) (hk : k + 1 ≤ S.lv) (hg : S.sc.names.lookup x = some .globalImplicit) (ha : RA S (e :: es) g) (hd : (x == ("__debug__" : Str)) = false := by decide)
    (he : ∀ env : Env, starEach (e :: es) env = (false, eval e env) :: starEach es env := by intro _; rfl) (hpl : ∀ env : Env, (backTo pos (starEach es env)).any (·.1) = false := by intro _; rfl) :
    RM S (.Call (.Name x p) (e :: es) [] pos) (fMk x f g) := by
  intro W B env F σ H Q at_ q
  obtain ⟨C, fI, fd, ps, Bn, nw, ini, tl, Fb, T, gC, iC, tI, Fn, hb⟩ := hc.ex
  refine ⟨tMx C (spI C f) (UA S W (e :: es)), fun X ok => ?_, ha W B env F σ H _ at_ (Po.bnd q fun ws e1 vs F1 H1 _ l1 a1 r1 q1 => ?_)⟩
  · refine pmk_x (CX := L2.CX X.prog X.w) (k := k) Fb (by rw [ok.K]; exact T) (by rw [ok.K]; exact iC) (by rw [ok.K]; exact tI) (fnok_of ok Fn) (ok.room.mono hk) (by rw [ok.K]; exact hb) (passes_call ok.tk fun _ _ _ _ z => z.elim) (gl_of ok hg) (by rw [ok.mg]; exact gC) (ua_pa ok) hd (he _) (hpl _)
  · cases r1 with
    | nil => exact q1.elim
    | @cons w v ws' vs' rv rr =>
      cases rr with
      | cons _ _ => exact q1.elim
      | nil =>
        refine ⟨by simp, fun a na => ⟨a, v, rfl, upd_same, fun dx nd ne => ⟨rfl, dx, [(f, v)], upd_same, ?_, ?_, ?_⟩⟩⟩
        · rw [upd_ne ne, upd_same]
        · rw [upd_ne ne] at nd; exact nd
        · rw [upd_ne ne] at nd
          have eq : upd (del (upd (upd (upd H1 a (exo a C none)) dx (exd dx [(f, v)])) a (exo a C (some dx))) a) dx (.xd [(f, v)]) = upd H1 dx (.xd [(f, v)]) := by
            funext b
            by_cases h1 : b = dx
            · rw [h1, upd_same, upd_same]
            rw [upd_ne h1, upd_ne h1]
            by_cases h2 : b = a
            · rw [h2, del_same, na]
            rw [del_ne h2, upd_ne h2, upd_ne h1, upd_ne h2]
          have z := q1 (.ref C, some dx) _ _ (Le.new (none_le a1.le nd)) (a1.new nd (.xd [(f, v)])) (Rx.some gC upd_same (rv.le (Le.new (none_le a1.le nd))))
          show Q (.ref C) (some dx) _
          rw [eq]
          exact z
theorem rm_mk0 {m : Str} {j : Nat} {p2 : Pos} (hc : Mk0Ok S.g x) (hg : S.sc.names.lookup x = some .globalImplicit) (hd : (x == ("__debug__" : Str)) = false := by decide) : RM S (.Call (.Name x p) [.Constant (.str m) j p2] [] pos) (fMk0 x) := by
  intro W B env F σ H Q at_ q
  obtain ⟨C, Bn, nw, ini, tl, Fb, T, gC, kC, sC, tC⟩ := hc.ex
  refine ⟨fun _ H Q => Q (.ref C) none H, fun X ok => ?_, ?_⟩
  · exact pmk_own Fb (by rw [ok.K]; exact T) (by rw [ok.mg]; exact gC) (by rw [ok.K]; exact kC) (raises_own (by rw [ok.K]; exact sC) (by rw [ok.K]; exact tC)) (gl_of ok hg) hd
  · exact q (.ref C, none) F H (.refl F) at_ (Rx.none gC)
theorem rs_raise {f : FX} (h : RM S e f) : RS S (.Raise (some e) none pos) (sRaise f) := by
  intro W B env F σ H D at_ q
  refine ⟨fun _ σ H => UM S W e σ H fun cls d H' => W cls d σ H', fun X ok => ps_raise ok.calm ok.tk (um_pmk ok), h W B env F σ H _ at_ ?_⟩
  unfold sRaise at q
  cases e1 : f env with
  | ok x st1 =>
    rw [e1] at q
    exact fun p F' H' l a r => q p.1 p.2 F' σ H' l a r
  | exc x st1 =>
    rw [e1] at q
    exact fun c d F' H' l a r => q c d F' σ H' l a r
  | bad => rw [e1] at q; exact q
end

/-! ### clauses that return -/
/-- which of the program's errors are which -/
def SubOk (G : Wo) (sub : Str → Str → Option Bool) : Prop := ∀ c h b, sub c h = some b → ∃ C D : Addr, G.mg c = some (.ref C) ∧ G.mg h = some (.ref D) ∧ PySem.W.exmOne G.K (.ref C) (.ref D) = some b
/-- a clause: its class, its name's slot, what it returns -/
structure Kr where
  hx : Str
  sl : Option Nat
  R : XV → Option W
def pickR (sub : Str → Str → Option Bool) (x : XV) : List Kr → Option W
  | [] => none
  | k :: r => match sub x.cls k.hx with
    | some true => k.R x
    | some false => pickR sub x r
    | none => none
/-- an expression of a suite -/
def UY (S : Ctx) (W : WX) (e : Expr) : Addr → Value → Option Addr → TE := fun a cls d σ H Q =>
  ∃ t, (∀ X, S.Ok W X → ∀ (o : Obj) (pn : List (Addr × Obj)), Zc cls d o → (∃ vs, o.data = .fields vs) → PE (X.suite a ((a, o) :: pn)) e t) ∧ t σ H Q
def RY (S : Ctx) (sl : Option Nat) (e : Expr) (R : XV → Option W) : Prop :=
  ∀ (W : WX) B env F σ H (Q : VK) x cls d a z, At S B env F σ H → Rx S.g F x cls d → R x = some z → Nx S B env F σ Q z → UY S W e a cls d (onE σ a sl) H Q
/-- a suite's reading, whatever the context -/
def UK (S : Ctx) (W : WX) (b : List Stmt) : Addr → Value → Option Addr → TS := fun a cls d D σ H =>
  ∃ t, (∀ X, S.Ok W X → ∀ (o : Obj) (pn : List (Addr × Obj)), Zc cls d o → (∃ vs, o.data = .fields vs) → PSs (X.suite a ((a, o) :: pn)) b t) ∧ t D σ H
theorem uk_pss {S : Ctx} {W : WX} {X : Cx} {b : List Stmt} (ok : S.Ok W X) (a : Addr) (o : Obj) (cls : Value) (d : Option Addr) (pn : List (Addr × Obj)) (z : Zc cls d o) (f : ∃ vs, o.data = .fields vs) : PSs (X.suite a ((a, o) :: pn)) b (UK S W b a cls d) :=
  ⟨fun pins s σ H D I ⟨t, h, q⟩ => (h X ok o pn z f).run pins s σ H D I q⟩
/-- the suite b, the error in slot sl, returns R -/
def RK (S : Ctx) (b : List Stmt) (sl : Option Nat) (R : XV → Option W) : Prop :=
  ∀ (W : WX) B env F σ H (D : Ends) x cls d a z, At S B env F σ H → Rx S.g F x cls d → H a = none → R x = some z → Nx S B env F σ D.rt z → UK S W b a cls d (offE D sl) (onE σ a sl) H
theorem rk_ret {S : Ctx} {sl : Option Nat} {e : Expr} {R : XV → Option W} {q : Pos} (h : RY S sl e R) : RK S [.Return (some e) q] sl R := by
  intro W B env F σ H D x cls d a z at_ rx na ez n
  obtain ⟨t, h1, h2⟩ := h W B env F σ H D.rt x cls d a z at_ rx ez n
  refine ⟨_, fun X ok o pn z f => pss_one (ps_ret (h1 X ok o pn z f)), ?_⟩
  cases sl <;> exact h2
inductive KsOk (S : Ctx) : List ExceptHandler → List Kr → Prop
  | nil : KsOk S [] []
  | no {x : Str} {b0 : Stmt} {bs : List Stmt} {np q : Pos} {R : XV → Option W} {hds : List ExceptHandler} {l : List Kr} (hg : S.sc.names.lookup x = some .globalImplicit) (hd : (x == ("__debug__" : Str)) = false) (h : RK S (b0 :: bs) none R) (r : KsOk S hds l) :
      KsOk S (.ExceptHandler (some (.Name x np)) none (b0 :: bs) q :: hds) (⟨x, none, R⟩ :: l)
  | as {x n : Str} {i : Nat} {b0 : Stmt} {bs : List Stmt} {np q : Pos} {R : XV → Option W} {hds : List ExceptHandler} {l : List Kr} (hg : S.sc.names.lookup x = some .globalImplicit) (hd : (x == ("__debug__" : Str)) = false)
      (hi : S.N[i]? = some n) (hl : S.sc.names.lookup n = some .local) (h : RK S (b0 :: bs) (some i) R) (r : KsOk S hds l) :
      KsOk S (.ExceptHandler (some (.Name x np)) (some n) (b0 :: bs) q :: hds) (⟨x, some i, R⟩ :: l)
/-- the clauses as the library sees them -/
def clsOf (S : Ctx) (W : WX) : List ExceptHandler → List Kr → List Pg.Cl
  | .ExceptHandler _ _ b _ :: hds, k :: l => ⟨(S.g.mg k.hx).getD .none, k.sl, UK S W b⟩ :: clsOf S W hds l
  | _, _ => []
theorem cls_ok {S : Ctx} {W : WX} {X : Cx} (ok : S.Ok W X) : ∀ {hds : List ExceptHandler} {l : List Kr}, KsOk S hds l → (∀ k ∈ l, ∃ D : Addr, S.g.mg k.hx = some (.ref D)) → Pg.Cls X hds (clsOf S W hds l)
  | _, _, .nil, _ => .nil
  | _, _, .no (x := x) hg hd h r, hm => by
    obtain ⟨D, e⟩ := hm _ List.mem_cons_self
    dsimp only at e
    refine .cons ⟨gl_of ok hg, hd, .inl ?_⟩ .no (fun a o cls d pn z f => uk_pss ok a o cls d pn z f) (cls_ok ok r fun k hk => hm k (List.mem_cons_of_mem _ hk))
    show X.mg x = some ((S.g.mg x).getD .none)
    rw [ok.mg, e]
    rfl
  | _, _, .as (x := x) hg hd hi hl h r, hm => by
    obtain ⟨D, e⟩ := hm _ List.mem_cons_self
    dsimp only at e
    refine .cons ⟨gl_of ok hg, hd, .inl ?_⟩ (.yes (by rw [ok.N]; exact hi) ?_) (fun a o cls d pn z f => uk_pss ok a o cls d pn z f) (cls_ok ok r fun k hk => hm k (List.mem_cons_of_mem _ hk))
    · show X.mg x = some ((S.g.mg x).getD .none)
      rw [ok.mg, e]
      rfl
    · show X.env.scope.names.lookup _ = _
      rw [ok.sc]
      exact hl
theorem rx_cls {S : Wo} {F : Hp} {x : XV} {c : Value} {d : Option Addr} (r : Rx S F x c d) : ∃ C : Addr, c = .ref C ∧ S.mg x.cls = some (.ref C) := by
  cases r with
  | none h => exact ⟨_, rfl, h⟩
  | some h _ _ => exact ⟨_, rfl, h⟩
theorem pick_ok {S : Ctx} {W : WX} {sub : Str → Str → Option Bool} (hs : SubOk S.g sub) {D : Ends} {out : WX} {x : XV} {cls : Value} {d : Option Addr} {B : Fx} {env : En} {F : Hp} {σ : L2.St} {H : Hp} {z : Pv.W} (at_ : At S B env F σ H) (rx : Rx S.g F x cls d) (n : Nx S B env F σ D.rt z) :
    ∀ {hds : List ExceptHandler} {l : List Kr}, KsOk S hds l → pickR sub x l = some z → wTries S.g.K out D (clsOf S W hds l) cls d σ H
  | _, _, .nil, q => by cases q
  | _, _, .no (x := hx) (R := R) hg hd h r, q => by
    unfold pickR at q
    cases e : sub x.cls hx with
    | none => dsimp only at q; rw [e] at q; cases q
    | some b =>
      obtain ⟨C, E, g1, g2, em⟩ := hs _ _ _ e
      obtain ⟨C', rfl, g3⟩ := rx_cls rx
      rw [g1] at g3
      cases g3
      dsimp only at q
      rw [e] at q
      refine ⟨b, by show PySem.W.exmOne S.g.K (.ref C) ((S.g.mg hx).getD .none) = some b; rw [g2]; exact em, fun hb a na => ?_, fun hb => ?_⟩
      · subst hb
        exact h W B env F σ H D x _ d a z at_ rx na q n
      · subst hb
        exact pick_ok hs at_ rx n r q
  | _, _, .as (x := hx) (R := R) hg hd hi hl h r, q => by
    unfold pickR at q
    cases e : sub x.cls hx with
    | none => dsimp only at q; rw [e] at q; cases q
    | some b =>
      obtain ⟨C, E, g1, g2, em⟩ := hs _ _ _ e
      obtain ⟨C', rfl, g3⟩ := rx_cls rx
      rw [g1] at g3
      cases g3
      dsimp only at q
      rw [e] at q
      refine ⟨b, by show PySem.W.exmOne S.g.K (.ref C) ((S.g.mg hx).getD .none) = some b; rw [g2]; exact em, fun hb a na => ?_, fun hb => ?_⟩
      · subst hb
        exact h W B env F σ H D x _ d a z at_ rx na q n
      · subst hb
        exact pick_ok hs at_ rx n r q

/-! ### what a suite shows -/
def reprOk (d : PyData) : Bool := d.showable && (!d.hasDict && (decide (d.depth ≤ 30) && decide (d.shown.length ≤ sizeLine)))
/-- {} -/
theorem dic_reads {X : Cx} {pins : List (Addr × Obj)} {σ : L2.St} {H : Hp} {s : Shared} {a : Addr} {ob : Obj} (I : Inv X pins σ H s) (h : H a = some (.frz ob (.dK []))) : Reads s.heap (.ref a) (.dict []) [a] ∧ sysModules ∉ [a] := by
  have x : ObjOk X.prog X.w H s.heap a (.dK []) := (I.hok a _ h).2
  obtain ⟨_, hs, vs, kv, o, es, ep, e1, e2, e3, _, e5, _⟩ := x
  cases kv
  have z : es.toList = [] := by
    cases q : es.toList with
    | nil => rfl
    | cons y r => rw [q] at e5; cases e5
  have r := Reads.dict (kvs := []) e1 e2.1 e3 (by rw [z]; exact .nil) (by rw [z]; exact .nil)
  refine ⟨by simpa using r, fun m => ?_⟩
  have := List.mem_singleton.mp m
  rw [this] at hs
  simp at hs
def rRepr (K : PySem.W.Frag) : List V → Hp → VK → Prop := fun xs H Q => (∃ (v : V) (d : PyData), xs = [v] ∧ Dp K H v d ∧ reprOk d = true ∧ Q (.str d.shown) H) ∨ ∃ (a : Addr) (ob : Obj), xs = [.ref a] ∧ H a = some (.frz ob (.dK [])) ∧ Q (.str "{}") H
theorem call_repr {X : Cx} (gd : X.A.guards = some []) (hu : X.A.units + 40 < cLine) : CallR X (.builtin "repr") (rRepr X.K) := by
  intro pins s σ H xs us Q I r h
  rcases h with ⟨v, d, rfl, dp, ok, q⟩ | ⟨a, ob, rfl, ha, q⟩
  case inr =>
    obtain ⟨u, rfl, rv⟩ := vals1 r
    obtain rfl : u = .ref a := rv
    obtain ⟨rd, ns⟩ := dic_reads I ha
    have e : (PyData.dict []).shown = ("{}" : Str) := by decide +kernel
    refine repr_of_reads' rd (by decide +kernel) (fun _ => ns) gd (by simp [PyData.depth, PyData.depthKv]; omega) (fun _ _ e => e) (fun h' t tk k => ?_) (by rw [e]; decide +kernel)
    rw [e]
    exact ⟨.str "{}", H, I.kept (t' := tk) k, ⟨t, rfl⟩, q⟩
  obtain ⟨u, rfl, rv⟩ := vals1 r
  obtain ⟨as, rd⟩ := dp.reads I d v u rv
  unfold reprOk at ok
  simp only [Bool.and_eq_true, decide_eq_true_eq, Bool.not_eq_true'] at ok
  obtain ⟨o1, o2, o3, o4⟩ := ok
  have byRef : ∀ {a : Addr}, u = .ref a → wpAny (model X.prog X.w) X.A (call (.builtin "repr") [u]) (EP X pins σ Q) X.xe s := by
    intro a e
    subst e
    refine repr_of_reads' rd o1 (PyData.noDict_hsm o2) gd (by omega) (fun _ _ e => e) (fun h' t tk k => ?_) o4
    exact ⟨.str d.shown, H, I.kept (t' := tk) k, ⟨t, rfl⟩, q⟩
  cases rd with
  | none => exact PySem.P.repr_of_none ⟨.str _, H, I.tok _, ⟨_, rfl⟩, q⟩
  | bool b => exact PySem.P.repr_of_bool ⟨.str _, H, I.tok _, ⟨_, rfl⟩, q⟩
  | int i t =>
    have z : i.natAbs.log2 < 1920 := by simpa [PyData.showable] using o1
    exact PySem.P.repr_of_int z ⟨.str _, H, I.tok _, ⟨_, rfl⟩, q⟩
  | str x t =>
    have z : (reprText x).length ≤ sizeLine := by simpa [PyData.shown] using o4
    exact PySem.P.repr_of_str ⟨.str _, H, I.tok _, ⟨_, rfl⟩, q⟩ z
  | list => exact byRef rfl
  | tuple => exact byRef rfl
  | dict => exact byRef rfl
/-- repr of data without dicts -/
def reprW (w : W) : Option W := match w with
  | .dic [] => some (.str "{}")
  | w => match toD 20 w with
    | some d => if reprOk d = true then some (.str d.shown) else none
    | none => none
def fRepr (ws : List W) : Option W := match ws with
  | [w] => reprW w
  | _ => none
theorem repr_rd {S : Ctx} {B : Fx} {env : En} {F : Hp} {σ : L2.St} {H : Hp} {w z : W} {v : V} {Q : VK} (a : At S B env F σ H) (rv : Rv S.g F w v) (h : reprW w = some z) (n : Nx S B env F σ Q z) : rRepr S.g.K [v] H Q := by
  unfold reprW at h
  split at h
  · cases h
    cases rv with
    | dK hd e rs =>
      rename_i hk
      have : hk = [] := by cases hk with | nil => rfl | cons _ _ => cases e
      subst this
      exact .inr ⟨_, _, rfl, a.le _ _ hd, nx_here n a (.str _)⟩
    | dT n0 hd e rs => exact absurd rfl n0
  · split at h
    · rename_i d e
      split at h
      · rename_i ok
        cases h
        exact .inl ⟨v, d, rfl, (toD_dp a.le 20).1 rv e, ok, nx_here n a (.str _)⟩
      · cases h
    · cases h
end Pv
namespace Pv
open PySem PySem.Spec PyProof.Rows L2 LamX
open Pg (OxC Tl pmk_x tMx onE offE wTries NmOk ps_tries hearX pe_lm tLm act_lam tBi tXst pe_bi pe_bo ps_xst RefsTo held_of)

theorem c_repr {S : Ctx} : CbOk S (.builtin "repr") fRepr := by
  intro Wx B env F σ H ws vs z Q a rv q n
  unfold fRepr at q
  split at q
  · cases rv with
    | cons r rr =>
      cases rr
      exact ⟨rRepr S.g.K, fun X ok => by rw [← ok.K]; exact call_repr ok.gd (by have := ok.room.un; omega), repr_rd a r q n⟩
  · cases q

/-! ### the kept field, shown -/
structure XfOk (G : Wo) (cls f : Str) : Prop where
  ex : ∃ C : Addr, G.mg cls = some (.ref C) ∧ XfC G.K C ∧ PySem.W.findIn G.K (.ref C) f = some none
def RYA (S : Ctx) (sl : Option Nat) (es : List Expr) (R : XV → Option (List W)) : Prop :=
  ∀ (W : WX) B env F σ H (Q : List V → Hp → Prop) x cls d a z, At S B env F σ H → Rx S.g F x cls d → R x = some z → (∀ vs F' H', Le F F' → At S B env F' σ H' → Rvs S.g F' z vs → Q vs H') →
    ∃ t, (∀ X, S.Ok W X → ∀ (o : Obj) (pn : List (Addr × Obj)), Zc cls d o → (∃ vs, o.data = .fields vs) → PA (X.suite a ((a, o) :: pn)) es t) ∧ t (onE σ a sl) H Q
/-- the kept field of the error in the clause's name -/
def yFld (cls f : Str) : XV → Option W := fun x => match x.fld with
  | some (g, w) => if g = f ∧ x.cls = cls then some w else none
  | none => none
theorem len_pe {X : Cx} {e : Expr} {t : TE} (h : PE X e t) : PE X e (fun σ H Q => σ.length = X.N.length → t σ H Q) := ⟨fun pins s σ H Q I q => h.run pins s σ H Q I (q I.len)⟩
theorem ry_fld {S : Ctx} {i : Nat} {n cls f : Str} {p1 p2 : Pos} (hf : XfOk S.g cls f) (hN : S.N[i]? = some n) (hv : Vis S.sc n) (hd : (n == ("__debug__" : Str)) = false := by decide) (hcd : (n == ("__classdict__" : Str)) = false := by decide)
    (hb : ∀ env : Env, attributeBase (.Name n p1) f env (eval (.Name n p1) env) = eval (.Name n p1) env := by intro _; rfl) : RY S (some i) (.Attribute (.Name n p1) f p2) (yFld cls f) := by
  intro W B env F σ H Q x c d a z at_ rx ez nx
  obtain ⟨C, gC, T, hno⟩ := hf.ex
  unfold yFld at ez
  split at ez
  · rename_i g w ef
    split at ez
    · rename_i hc
      cases ez
      obtain ⟨rfl, hc⟩ := hc
      cases rx with
      | none h => cases ef
      | @some _ _ _ C' dd v h hd2 rv =>
        cases ef
        dsimp only at hc
        subst hc
        rw [gC] at h
        cases h
        refine ⟨fun σ H Q => σ.length = S.N.length → tXf a (.ref C) (some dd) C g (tVar i) σ H Q, fun X ok o pn z fl => ?_, fun hl => ?_⟩
        · have nm : PE (X.suite a ((a, o) :: pn)) (.Name n p1) (tVar i) := pe_var (by show X.N[i]? = _; rw [ok.N]; exact hN) (by show Vis X.env.scope n; rw [ok.sc]; exact hv) hd hcd
          have z2 := len_pe (pe_xf (by rw [ok.K]; exact T) (by rw [ok.K]; exact hno) z fl nm (hb _) (pos := p2))
          have e : (X.suite a ((a, o) :: pn)).N.length = S.N.length := by show X.N.length = _; rw [ok.N]
          rw [e] at z2
          exact z2
        · have hl2 : i < σ.length := by
            have := (List.getElem?_eq_some_iff.mp hN).1
            have e : (onE σ a (some i)).length = σ.length := by show (σ.set i _).length = _; simp
            omega
          refine ⟨.ref a, List.getElem?_set_self hl2, rfl, rfl, dd, [(g, v)], v, rfl, at_.le _ _ hd2, by simp, ?_⟩
          exact nx_here nx at_ rv
    · cases ez
  · cases ez
def yRepr (R : XV → Option W) : XV → Option W := fun x => match R x with
  | some w => reprW w
  | none => none
theorem ry_repr {S : Ctx} {sl : Option Nat} {e : Expr} {R : XV → Option W} {p1 p2 : Pos} (hg : S.sc.names.lookup ("repr" : Str) = some .globalImplicit) (hm : S.g.mg "repr" = none) (hb : bootBuiltins "repr" = some (.builtin "repr")) (h : RY S sl e R)
    (he : ∀ env : Env, starEach [e] env = (false, eval e env) :: starEach [] env := by intro _; rfl) : RY S sl (.Call (.Name "repr" p1) [e] [] p2) (yRepr R) := by
  intro W B env F σ H Q x c d a z at_ rx ez nx
  unfold yRepr at ez
  split at ez
  · rename_i w ew
    obtain ⟨t, h1, h2⟩ := h W B env F σ H (fun v H1 => rRepr S.g.K [v] H1 Q) x c d a w at_ rx ew fun v F' H' l a' rv => repr_rd a' rv ez fun v2 F2 H2 l2 a2 r2 => nx v2 F2 H2 (l.trans l2) a2 r2
    refine ⟨tCB (rRepr S.g.K) (tCons t tNil), fun X ok o pn z fl => ?_, h2⟩
    have cr : CallR (X.suite a ((a, o) :: pn)) (.builtin "repr") (rRepr S.g.K) := by rw [← ok.K]; exact call_repr ok.gd (by have := ok.room.un; show X.A.units + 40 < cLine; omega)
    refine pe_callB cr ?_ (by show X.mg "repr" = none; rw [ok.mg]; exact hm) hb (pa_cons (h1 X ok o pn z fl) pa_nil (he _)) (by decide) (by decide) (he _) (by rfl)
    show X.env.scope.names.lookup _ = _
    rw [ok.sc]
    exact hg
  · cases ez
/-! ### displays in a suite -/
def yC (w : W) : XV → Option W := fun _ => some w
theorem ry_c {S : Ctx} {sl : Option Nat} {e : Expr} {w : W} {v : V} (hp : ∀ X : Cx, PE X e (tC v)) (rv : ∀ F, Rv S.g F w v) : RY S sl e (yC w) := by
  intro W B env F σ H Q x cls d a z at_ rx ez nx
  cases ez
  exact ⟨tC v, fun X ok o pn z f => hp _, nx_here nx at_ (rv _)⟩
theorem ry_str {S : Ctx} {sl : Option Nat} {x : Str} {j : Nat} {pos : Pos} : RY S sl (.Constant (.str x) j pos) (yC (.str x)) := ry_c (v := .str x) (fun _ => pe_str) fun _ => .str x
theorem ry_non {S : Ctx} {sl : Option Nat} {j : Nat} {pos : Pos} : RY S sl (.Constant .none j pos) (yC .non) := ry_c (v := .non) (fun _ => pe_non) fun _ => .non
def yNil : XV → Option (List W) := fun _ => some []
def yCons (R : XV → Option W) (T : XV → Option (List W)) : XV → Option (List W) := fun x => match R x with
  | some w => (match T x with
    | some ws => some (w :: ws)
    | none => none)
  | none => none
theorem rya_nil {S : Ctx} {sl : Option Nat} : RYA S sl [] yNil := by
  intro W B env F σ H Q x c d a z at_ rx ez nx
  cases ez
  exact ⟨tNil, fun X ok o pn z fl => pa_nil, nx [] F H (.refl F) at_ .nil⟩
theorem rya_cons {S : Ctx} {sl : Option Nat} {e : Expr} {es : List Expr} {R : XV → Option W} {T : XV → Option (List W)} (h : RY S sl e R) (ht : RYA S sl es T)
    (he : ∀ env : Env, starEach (e :: es) env = (false, eval e env) :: starEach es env := by intro _; rfl) : RYA S sl (e :: es) (yCons R T) := by
  intro W B env F σ H Q x c d a z at_ rx ez nx
  unfold yCons at ez
  split at ez
  · rename_i w ew
    split at ez
    · rename_i ws ews
      cases ez
      let tt : TA := fun σ H Q => ∃ t, (∀ X, S.Ok W X → ∀ (o : Obj) (pn : List (Addr × Obj)), Zc c d o → (∃ vs, o.data = .fields vs) → PA (X.suite a ((a, o) :: pn)) es t) ∧ t σ H Q
      refine ⟨tCons (UY S W e a c d) tt, fun X ok o pn z fl => pa_cons ⟨fun pins s σ H Q I ⟨t, h, q⟩ => (h X ok o pn z fl).run pins s σ H Q I q⟩ ⟨fun pos pins s σ H Q I ⟨t, h, q⟩ => (h X ok o pn z fl).run pos pins s σ H Q I q⟩ (he _), ?_⟩
      refine h W B env F σ H _ x c d a w at_ rx ew fun v F1 H1 l1 a1 r1 => ?_
      exact ht W B env F1 σ H1 _ x c d a ws a1 (rx.le l1) ews fun vs F2 H2 l2 a2 r2 => nx (v :: vs) F2 H2 (l1.trans l2) a2 (.cons (r1.le l2) r2)
    · cases ez
  · cases ez
def yTup (T : XV → Option (List W)) : XV → Option W := fun x => match T x with
  | some ws => szO .tup ws
  | none => none
theorem ry_tup {S : Ctx} {sl : Option Nat} {es : List Expr} {k : Nat} {pos : Pos} {T : XV → Option (List W)} (h : RYA S sl es T) : RY S sl (.Tuple es k pos) (yTup T) := by
  intro W B env F σ H Q x c d a z at_ rx ez nx
  unfold yTup at ez
  split at ez
  · rename_i ws ews
    obtain ⟨hl, rfl⟩ := szO_ok ez
    obtain ⟨t, h1, h2⟩ := h W B env F σ H (fun vs H1 => vs.length ≤ sizeLine ∧ ∀ p, H1 p = none → Q (.ref p) (upd H1 p (.tup vs))) x c d a ws at_ rx ews fun vs F1 H1 l1 a1 r1 =>
      ⟨by rw [r1.length]; exact hl, fun p hp => nx_tup (fun v F' H' l a' r => nx v F' H' (l1.trans l) a' r) a1 r1 hp⟩
    exact ⟨tTup t, fun X ok o pn z fl => pe_tup (h1 X ok o pn z fl), h2⟩
  · cases ez
/-- two texts in a row, in a suite -/
def yAdd (R T : XV → Option W) : XV → Option W := fun x => match R x, T x with
  | some (.str i), some (.str j) => if i.length + j.length ≤ sizeLine then some (.str (i ++ j)) else none
  | _, _ => none
abbrev rCatS : V → V → Hp → VK → Prop := fun x y H Q => ∃ i j, x = .str i ∧ y = .str j ∧ i.length + j.length ≤ sizeLine ∧ Q (.str (i ++ j)) H
theorem ry_add {S : Ctx} {sl : Option Nat} {a b : Expr} {R T : XV → Option W} {pos : Pos} (ha : RY S sl a R) (hb : RY S sl b T) : RY S sl (.BinOp a .Add b pos) (yAdd R T) := by
  intro W B env F σ H Q x c d ad z at_ rx ez nx
  unfold yAdd at ez
  split at ez
  · rename_i i j ei ej
    split at ez
    · rename_i hl
      cases ez
      refine ⟨tOp rCatS (UY S W a ad c d) (UY S W b ad c d), fun X ok o pn z fl => pe_op op_add_str ⟨fun pins s σ H Q I ⟨t, h, q⟩ => (h X ok o pn z fl).run pins s σ H Q I q⟩ ⟨fun pins s σ H Q I ⟨t, h, q⟩ => (h X ok o pn z fl).run pins s σ H Q I q⟩, ?_⟩
      refine ha W B env F σ H _ x c d ad _ at_ rx ei fun v F1 H1 l1 a1 r1 => ?_
      refine hb W B env F1 σ H1 _ x c d ad _ a1 (rx.le l1) ej fun v2 F2 H2 l2 a2 r2 => ?_
      cases r1
      cases r2
      exact ⟨_, _, rfl, rfl, hl, nx _ F2 H2 (l1.trans l2) a2 (.str _)⟩
    · cases ez
  · cases ez

/-! ### a def that hears what a lambda raises -/
/-- where a def stands -/
structure DefAt (G : Wo) (s : Stmt) (x : Str) (ps : List Str) : Prop where
  ex : ∃ (fa : Addr) (fd : FuncData), L2.Fun G.K x x s fa fd ∧ G.mg x = some (.ref fa) ∧ Binds G.K fd ps []
/-- the errors of the program that are named -/
def ErrIn (G : Wo) (l : List Kr) : Prop := ∀ k ∈ l, ∃ D : Addr, G.mg k.hx = some (.ref D)
/-- the def that hears: try: a() except ..: .. / return c -/
structure HearOk (G : Wo) (k : Nat) (x a : Str) (sub : Str → Str → Option Bool) (ks : List Kr) (c : W) : Prop where
  ex : ∃ (stt : Stmt) (Ng : List Str) (p1 p2 p3 p4 : Pos) (h0 : ExceptHandler) (hds : List ExceptHandler) (rest : List Stmt) (Fin : FS), DefAt G stt x [a] ∧ FnScope Ng [a] (defScope stt) ∧ Ng[0]? = some a ∧ Vis (defScope stt) a ∧
    defBody stt = .Try [.Expr (.Call (.Name a p1) [] [] p2) p3] (h0 :: hds) [] [] p4 :: rest ∧ KsOk ⟨G, Ng, defScope stt, k, true, none, fun _ => false⟩ (h0 :: hds) ks ∧ RB ⟨G, Ng, defScope stt, k, true, none, fun _ => false⟩ rest Fin ∧ ∀ env, Fin env = .ret c env
  sub : SubOk G sub
  cls : ErrIn G ks
/-- the context of a lambda's body -/
abbrev Ctx.lamC (S : Ctx) (scope : Scope) (k : Nat) : Ctx := ⟨S.g, S.N, scope, k, false, none, fun _ => false⟩
theorem start0 {Ng : List Str} {a : Str} {v : V} (h : Ng[0]? = some a) : (L2.start Ng [v])[0]? = some (some v) := by
  cases Ng with
  | nil => cases h
  | cons b r => rfl
def fHear (sub : Str → Str → Option Bool) (ks : List Kr) (c : W) (f : FE) : FE := fun env => match f env with
  | .ok _ e => .ok c e
  | .exc x e => ofO (pickR sub x ks) e
  | .bad => .bad
theorem At.tab {S : Ctx} {B : Fx} {env : En} {F : Hp} {σ : L2.St} {H H1 : Hp} (a : At S B env F σ H) (e : ExtN H H1) (t : Tabs S.g.T H1) : At S B env F σ H1 := by
  refine a.mv (.refl F) (fun q o h => e q o (a.le q o h) fun ps z => a.nt q ps (by rw [h, z])) (fun q o h => e q o (a.fr q o h) fun ps z => ?_) a.dj (fun i ev w q h1 h2 h3 => ?_) t a.nt
  · have := a.bm q o h
    rw [z] at this
    cases this
  · obtain ⟨p, o, e1, e2, e3, e4, e5⟩ := a.own i ev w h1 h2
    rw [e1] at h3
    cases h3
    refine ⟨e2, ?_⟩
    rw [e4]
    refine e q o e4 fun ps z => ?_
    have := e5.mu
    rw [z] at this
    cases this
end Pv
namespace Pv
open PySem PySem.Spec PyProof.Rows L2 LamX
open Pg (OxC Tl pmk_x tMx onE offE wTries NmOk ps_tries hearX pe_lm tLm act_lam tBi tXst pe_bi pe_bo ps_xst RefsTo held_of)

theorem re_hear {S : Ctx} {k : Nat} {x a : Str} {sub : Str → Str → Option Bool} {ks : List Kr} {c0 : W} {params : Arguments} {body : Expr} {scope : Scope} {p lpos pos : Pos} {f : FE} {cc cP : Addr} {q : Str} (hc : HearOk S.g (k + 1) x a sub ks c0) (hk : k + 2 ≤ S.lv) (hg : S.sc.names.lookup x = some .globalImplicit)
    (hq : S.cq = some (cc, cP, q)) (hT : (cP, q ++ "<lambda>") ∈ S.g.T) (hu : ∀ p ∈ S.g.T, p.1 = cP → p.2 = q ++ "<lambda>") (L : LamS S.sc scope) (hdef : ∀ env : Env, defaultsOf params env = ([], []))
    (hbind : ∀ (q : Str) (cl : List (Str × Addr)) (pm cv ctv : Value), bindArgs (PySem.W.kla_fn "<lambda>" q params body scope cl pm cv ctv) ⟨[], []⟩ = pure []) (hb : RE (S.lamC scope k) body f)
    (hdb : (x == ("__debug__" : Str)) = false := by decide) (hd : (a == ("__debug__" : Str)) = false := by decide) (hcd : (a == ("__classdict__" : Str)) = false := by decide) :
    RE S (.Call (.Name x p) [.Lambda params body scope lpos] [] pos) (fHear sub ks c0 f) := by
  intro W B env F σ H Q at_ po
  obtain ⟨⟨stt, Ng, p1, p2, p3, p4, h0, hds, rest, Fin, A, sc, hNg, hva, hbd, hks, hrest, hfin⟩, hsub, hcls⟩ := hc
  obtain ⟨fa, fd, Fu, hm, hbn⟩ := A.ex
  obtain ⟨⟨oc, od, kV, doc, pm, an, cdv, ct, osl, rfl, lk, hcg⟩, kp⟩ := Fu
  let RD : Addr → Addr → L2.St → Hp → VK → Prop := fun _ c' σ H1 Q => ∃ B env F, At S B env F σ H1 ∧ Po S B σ F (Rv S.g) (fun _ _ _ => False) Q (fHear sub ks c0 f env)
  have noexc : ∀ {e1 : Rs Pv.W}, Po S B σ F (Rv S.g) (fun c d H' => W c d σ H') Q (fHear sub ks c0 f env) → Po S B σ F (Rv S.g) (fun _ _ _ => False) Q (fHear sub ks c0 f env) := fun {_} po => by
    unfold fHear at po ⊢
    cases e : f env with
    | bad => rw [e] at po; exact po.elim
    | ok w e1 => rw [e] at po; exact po
    | exc y e1 =>
      rw [e] at po
      dsimp only at po ⊢
      cases e2 : pickR sub y ks with
      | none => rw [e2] at po; exact po.elim
      | some w => rw [e2] at po; exact po
  refine ⟨tLm S.g.T (q ++ "<lambda>") RD, fun X ok => ?_, at_.tb, fun H1 fn c' eN T1 _ => ⟨B, env, F, at_.tab eN T1, noexc (e1 := .bad) po⟩⟩
  obtain ⟨e1, e2, TB⟩ := ok.lam _ _ _ hq
  subst e2
  have LX : LamS X.env.scope scope := by rw [ok.sc]; exact L
  refine pe_lm (k := k) (t := fun E => UE (S.lamC scope k) (fun c d _ H => E c d H) body) ok.gd (gl_of ok hg) (by rw [ok.mg]; exact hm) (by rw [ok.K]; exact kp) (by rw [ok.K]; exact lk) (by rw [ok.K]; exact hcg) (by rw [ok.K]; exact hbn) sc hNg hva TB e1 hT hu (ok.room.mono hk) LX (hdef _) hbind ?_ ?_ hdb hd hcd
  · intro A outer s H E fn c' hr gd
    refine ue_pe (W := fun c d _ H => E c d H) ⟨ok.P, ok.w, ok.K, ok.mg, ok.base, ok.N, by show X.N.Nodup; exact ok.nodup, rfl, rfl, hr, gd, (fun z => by cases z), (fun _ _ _ z => by cases z), (fun z => by cases z), takes_of rfl rfl rfl rfl, (fun z => by cases z), (fun _ z => by cases z), held_of (takes_of rfl rfl rfl rfl) rfl, ⟨_, _, _, ⟨rfl, rfl, rfl⟩⟩⟩
  · intro fn c' s σ H Q hr act hco rd
    obtain ⟨B, env, F, at1, po1⟩ := rd
    let S' : Ctx := ⟨S.g, Ng, defScope stt, k + 1, true, none, fun _ => false⟩
    have okN : ∀ {pn : List (Addr × Obj)}, S'.Ok WF (hearX X Ng x (defScope stt) fa cdv s H).nox := fun {pn} => ⟨ok.P, ok.w, ok.K, ok.mg, ok.base, rfl, sc.nd, rfl, rfl, hr, ok.gd, fun _ _ => rfl, (fun _ _ _ z => by cases z), fun _ => ⟨rfl, rfl⟩, L2.takes0, fun _ => PassesOwn.never, (fun _ z => by cases z), fun L u s' _ ⟨_, _, _, _, _, _, _, _, _, _, _, _, _, _, _, _, w⟩ => w.elim, ⟨_, _, _, ⟨rfl, rfl, rfl⟩⟩⟩
    rw [hbd]
    have s0 : (L2.start Ng [V.ref fn])[0]? = some (some (V.ref fn)) := start0 hNg
    let σ0 := L2.start Ng [V.ref fn]
    let e0 : En := startE Ng.length [.jk]
    let D : Ends := { nx := fun _ H' => Q .non H', rt := Q }
    let Z : Cx := (hearX X Ng x (defScope stt) fa cdv s H).nox
    have okZ : S'.Ok WF Z := okN (pn := [])
    let D1 : Ends := { D with nx := UB S' WF rest D }
    have tr := ps_tries (X := Z) (pos := p4) (tb := fun W => tDrop fun σZ HZ Q => σZ[0]? = some (some (.ref fn)) ∧ HZ c' = some (CodeO c' (X.env.qual ++ "<lambda>")) ∧ UE (S.lamC scope k) (fun c d _ H => W c d σZ H) body σ HZ Q) (body := [.Expr (.Call (.Name a p1) [] [] p2) p3])
      rfl rfl sc.nd (L2.takes0 (X := Z)) (fun W pn xe tk _ => pss_one (ps_expr (act W pn xe p1 p2 tk))) (cls_ok okZ hks hcls)
    refine ⟨_, pss_cons tr (ub_pss okZ), ?_⟩
    unfold tSeq tDrop
    refine ⟨s0, hco, ?_⟩
    refine hb (fun c d _ H => wTries Z.K WF D1 (clsOf S' WF (h0 :: hds) ks) c d σ0 H) B env F σ H _ (at1.cast rfl) ?_
    have at0 : ∀ {env' F' H'}, At S B env' F' σ H' → ∃ B', At S' ⟨B', fun _ => 0⟩ e0 F' σ0 H' ∧ ∀ F2 H2, Le F' F2 → Gh S.g B' F2 H2 → At S B env' F2 σ H2 := fun {env' F' H'} a => by
      obtain ⟨B', hB', g, back⟩ := a.call
      exact ⟨B', start_at (S := S') g (.cons (.jk _) .nil), back⟩
    unfold fHear at po1
    cases e : f env with
    | bad => rw [e] at po1; exact po1.elim
    | ok w e1 =>
      rw [e] at po1
      intro b F1 H1 l1 a1 _
      obtain ⟨B', a0, back⟩ := at0 (a1.cast (S' := S) rfl)
      refine hrest WF _ e0 F1 σ0 H1 D a0 ?_
      rw [hfin]
      exact fun v F2 σ2 H2 l2 a2 rv => po1 v F2 H2 (l1.trans l2) (back F2 H2 l2 a2.gh) rv
    | exc y e1 =>
      rw [e] at po1
      dsimp only at po1
      intro c d F1 H1 l1 a1 rx
      obtain ⟨B', a0, back⟩ := at0 (a1.cast (S' := S) rfl)
      cases e2 : pickR sub y ks with
      | none => rw [e2] at po1; exact po1.elim
      | some w =>
        rw [e2] at po1
        have z := pick_ok (S := S') (W := WF) (D := D1) (out := WF) hsub a0 rx (fun v F2 H2 l2 a2 rv => po1 v F2 H2 (l1.trans l2) (back F2 H2 l2 a2.gh) rv) hks e2
        rw [← ok.K] at z
        exact z
theorem hear_mk {G : Wo} {k : Nat} {x a : Str} {sub : Str → Str → Option Bool} {l : List Kr} {c : W} (hs : SubOk G sub) (he : ErrIn G l)
    (ex : ∃ (stt : Stmt) (Ng : List Str) (p1 p2 p3 p4 : Pos) (h0 : ExceptHandler) (hds : List ExceptHandler) (rest : List Stmt) (Fin : FS), DefAt G stt x [a] ∧ FnScope Ng [a] (defScope stt) ∧ Ng[0]? = some a ∧ Vis (defScope stt) a ∧
      defBody stt = .Try [.Expr (.Call (.Name a p1) [] [] p2) p3] (h0 :: hds) [] [] p4 :: rest ∧ KsOk ⟨G, Ng, defScope stt, k, true, none, fun _ => false⟩ (h0 :: hds) l ∧ RB ⟨G, Ng, defScope stt, k, true, none, fun _ => false⟩ rest Fin ∧ ∀ env, Fin env = .ret c env) :
    HearOk G k x a sub l c := ⟨ex, hs, he⟩
/-- a table of which error is which -/
def subT (l : List (Str × Str × Bool)) : Str → Str → Option Bool := fun c h => (l.find? fun t => decide (t.1 = c ∧ t.2.1 = h)).map fun t => t.2.2
theorem subT_ok {G : Wo} {l : List (Str × Str × Bool)} (h : ∀ t ∈ l, ∃ C D : Addr, G.mg t.1 = some (.ref C) ∧ G.mg t.2.1 = some (.ref D) ∧ PySem.W.exmOne G.K (.ref C) (.ref D) = some t.2.2) : SubOk G (subT l) := by
  intro c h' b e
  unfold subT at e
  obtain ⟨t, e1, e2⟩ := Option.map_eq_some_iff.mp e
  have p := List.find?_some e1
  obtain ⟨q1, q2⟩ := of_decide_eq_true p
  have z := h t (List.mem_of_find?_eq_some e1)
  rw [q1, q2, e2] at z
  exact z

/-! ### a def as a value, called -/
abbrev FnTab := Str → Option (Nat × Fn)
def fCallV (tab : FnTab) (i : Nat) (A : FA) : FE := fun env => match env[i]? with
  | some (some (.v (.gl x))) => match tab x with
    | some (n, f) => (A env).bind fun ws e1 => if ws.length = n then (f ws).rs e1 else .bad
    | none => .bad
  | _ => .bad
def TabOk (G : Wo) (k : Nat) (tab : FnTab) : Prop := ∀ x n f, tab x = some (n, f) → DefOk G k x n f
def tVal (i : Nat) (fa : Addr) (sp : Sp) (E : L2.St → XK) (t : TA) : TE := fun σ H Q => σ[i]? = some (some (.ref fa)) ∧ t σ H fun vs H1 => sp vs H1 Q (E σ)
theorem pe_val {X : Cx} {CX : CXT} {k i : Nat} {f : Addr} {fd : FuncData} {ps : List Str} {sp : Sp} {E : L2.St → XK} {a : Str} {p pos : Pos} {e : Expr} {es : List Expr} {t : TA} (F : FnG X.prog X.w X.K X.mg X.base CX k f fd ps sp) (hr : Room k X.A) (gd : X.A.guards = some [])
    (hN : X.N[i]? = some a) (hv : Vis X.env.scope a) (hk : PySem.W.keepIn X.K (.ref f) = true) (hb : Binds X.K fd ps []) (hx : ∀ σ, PassesAt CX X σ (E σ)) (ha : PA X (e :: es) t) (hd : (a == ("__debug__" : Str)) = false) (hcd : (a == ("__classdict__" : Str)) = false)
    (he : starEach (e :: es) X.env = (false, eval e X.env) :: starEach es X.env) (hpl : (backTo pos (starEach es X.env)).any (·.1) = false) : PE X (.Call (.Name a p) (e :: es) [] pos) (tVal i f sp E t) := by
  constructor
  intro pins s σ H Q I ⟨hs, h⟩
  have nm := (pe_var (X := X) (pos := p) (i := i) hN hv hd hcd).run pins s σ H (fun v H1 => v = .ref f ∧ H1 = H) I ⟨.ref f, hs, rfl, rfl⟩
  refine wpAny_Call_Name_kw (thn nm fun u s1 ⟨v, H1, I1, r1, ev, eH⟩ => ?_)
  subst ev
  rw [eH] at I1
  obtain rfl : u = .ref f := r1
  refine PySem.W.callWith_K (h₀ := X.base) I.ok.mod.kin hk (thn (ha.run pos pins s1 σ H _ I1 h) fun us s2 ⟨vs, H2, I2, r, q⟩ => ⟨I2.kIn, ?_⟩) he hpl
  exact run_G F hr gd hb (hx σ) I2 r q
theorem re_callv {S : Ctx} {k i : Nat} {tab : FnTab} {a : Str} {p pos : Pos} {e : Expr} {es : List Expr} {A : FA} (ht : TabOk S.g k tab) (hk : k ≤ S.lv) (hN : S.N[i]? = some a) (hv : Vis S.sc a) (ha : RA S (e :: es) A)
    (hd : (a == ("__debug__" : Str)) = false := by decide) (hcd : (a == ("__classdict__" : Str)) = false := by decide) (he : ∀ env : Env, starEach (e :: es) env = (false, eval e env) :: starEach es env := by intro _; rfl)
    (hpl : ∀ env : Env, (backTo pos (starEach es env)).any (·.1) = false := by intro _; rfl) : RE S (.Call (.Name a p) (e :: es) [] pos) (fCallV tab i A) := by
  intro W B env F σ H Q at_ q
  unfold fCallV at q
  split at q
  · rename_i x ex
    split at q
    · rename_i n f et
      obtain ⟨fa, fd, ps, hl, Fg, hm, hkp, hb⟩ := (ht x n f et).ex
      obtain ⟨v, h1, h2⟩ := at_.val i _ ex
      have hv' : v = .ref fa := by
        cases h2 with
        | gl h =>
          rw [hm] at h
          cases h
          rfl
      subst hv'
      refine ⟨tVal i fa (spF S.g f n) (WE W) (UA S W (e :: es)), fun X ok => ?_, h1, ha W B env F σ H _ at_ (Po.bnd q fun ws e1 vs F1 H1 _ l1 a1 r1 q1 => ?_)⟩
      · exact pe_val (fng_of ok Fg) (ok.room.mono hk) ok.gd (by rw [ok.N]; exact hN) (by rw [ok.sc]; exact hv) (by rw [ok.K]; exact hkp) (by rw [ok.K]; exact hb) (fun σ => passAt ok.tk σ) (ua_pa ok) hd hcd (he _) (hpl _)
      · split at q1
        · rename_i hn
          exact sp_of a1 r1 hn q1
        · exact q1.elim
    · exact q.elim
  · exact q.elim
def tabF : List (Str × Nat × Fn) → FnTab
  | [], _ => none
  | (y, n, f) :: r, x => if x = y then some (n, f) else tabF r x
theorem tab_nil {G : Wo} {k : Nat} : TabOk G k (tabF []) := fun x n f e => by cases e
theorem tab_cons {G : Wo} {k k' n : Nat} {y : Str} {f : Fn} {l : List (Str × Nat × Fn)} (h : DefOk G k' y n f) (hk : k' ≤ k) (r : TabOk G k (tabF l)) : TabOk G k (tabF ((y, n, f) :: l)) := fun x m g e => by
  unfold tabF at e
  split at e
  · rename_i q
    cases e
    rw [q]
    exact h.mono hk
  · exact r x m g e
theorem re_gd {S : Ctx} {k n : Nat} {x : Str} {f : Fn} {pos : Pos} (hc : DefOk S.g k x n f) (hg : S.sc.names.lookup x = some .globalImplicit) (hd : (x == ("__debug__" : Str)) = false := by decide) : RE S (.Name x pos) (fC (.gl x)) := by
  obtain ⟨fa, fd, ps, hl, F, hm, hkp, hb⟩ := hc.ex
  exact re_gref hg hm hd

/-! ### makers of own errors with a field -/
structure XC (K : PySem.W.Frag) (C fI : Addr) (f : Str) (nw : String) (tl : List Value) : Prop where
  ox : OxC K C nw tl
  no : PySem.W.findIn K (.ref C) f = some none
  ini : PySem.W.findIn K (.ref C) "__init__" = some (some (.ref fI))
  fn : PySem.W.typeIn K (.ref fI) = some (.type "function")
theorem init_ok {G : Wo} {C fI : Addr} {f B prm m : Str} {Bn nw ini : String} {tl : List Value} {x qual : Str} {stt : Stmt} {fd : FuncData} {p1 p2 p3 p4 p5 p6 p7 p8 p9 p10 : Pos} {j : Nat} (F : ExcBaseFacts Bn nw ini tl) (Z : Tl tl) (T : XC G.K C fI f nw tl)
    (Fu : L2.Fun G.K x qual stt fI fd) (sc : FnScope ["self", prm] ["self", prm] (defScope stt))
    (hbd : defBody stt = [.Expr (.Call (.Attribute (.Name B p1) "__init__" p2) [.Name "self" p3, .Constant (.str m) j p4] [] p5) p6, .Assign [.Attribute (.Name "self" p7) f p8] (.Name prm p9) p10])
    (v0 : Vis (defScope stt) "self") (v1 : Vis (defScope stt) prm) (hp : (prm == ("__debug__" : Str)) = false) (hp2 : (prm == ("__classdict__" : Str)) = false)
    (call : ∀ (X : Cx) (ta : TA), X.mg = G.mg → X.K = G.K → X.env.scope = defScope stt → PA X [.Name "self" p3, .Constant (.str m) j p4] ta → PE X (.Call (.Attribute (.Name B p1) "__init__" p2) [.Name "self" p3, .Constant (.str m) j p4] [] p5) (tBi G.K nw tl ta)) :
    FnOk G.P G.w G.K G.mg G.base (L2.CX G.P G.w) 1 fI fd ["self", prm] (spI C f) := by
  refine Fu.okX sc (fun vs H Q E ⟨a, y, e, _⟩ => by rw [e]; rfl) fun cdv A outer s H vs Q E hr ⟨a, y, e, ha, hq⟩ => ?_
  subst e
  rw [hbd]
  let X : Cx := cxOf (L2.CX G.P G.w) G.P G.w G.K G.mg G.base ["self", prm] qual (defScope stt) fI cdv A outer s H E
  have s0 : ∀ {p : Pos}, PE X (.Name "self" p) (tVar 0) := pe_var rfl v0
  have s1 : ∀ {p : Pos}, PE X (.Name prm p) (tVar 1) := pe_var rfl v1 hp hp2
  have c1 : PE X (.Call (.Attribute (.Name B p1) "__init__" p2) [.Name "self" p3, .Constant (.str m) j p4] [] p5) (tBi G.K nw tl (tCons (tVar 0) (tCons (tC (.str m)) tNil))) := call X _ rfl rfl rfl (pa_cons s0 (pa_cons pe_str pa_nil))
  have c2 : PS X (.Assign [.Attribute (.Name "self" p7) f p8] (.Name prm p9) p10) (tXst G.K nw tl f (tVar 0) (tVar 1)) := ps_xst (X := X) Z s0 s1
  refine ⟨_, pss_cons (ps_expr c1) (pss_cons c2 pss_nil), ?_⟩
  show ∃ v, (L2.start ["self", prm] [V.ref a, y])[0]? = some (some v) ∧ _
  exact ⟨.ref a, rfl, a, C, [.str m], rfl, (show 1 ≤ 1000 by decide), T.ox, ha, y, rfl, .ref a, rfl, a, C, rfl, T.ox, T.no, ha, fun dx nd ne => hq dx nd ne⟩
/-- how the call of the base's start is read -/
def McOk (c : Expr) (pos : Pos) (es : List Expr) (p2 : Pos) (o : Expr) : Prop := ∀ env : Env, ∃ pl : Sem Bool, eval c env = (do
  let ov ← eval o env
  standAt p2.atName
  let fx ← holding [ov] (getMethod ov "__init__" pl)
  callWith pos fx.1 fx.2 (backTo pos (starEach es env)) (backToKw pos (keywordEach [] env)))
theorem mk_b {G : Wo} {C fI : Addr} {er f B prm m : Str} {Bn nw ini : String} {tl : List Value} {x qual : Str} {stt : Stmt} {fd : FuncData} {p1 p2 p3 p4 p5 p6 p7 p8 p9 p10 : Pos} {j : Nat} (F : ExcBaseFacts Bn nw ini tl) (Z : Tl tl) (T : XC G.K C fI f nw tl) (gC : G.mg er = some (.ref C))
    (Fu : L2.Fun G.K x qual stt fI fd) (sc : FnScope ["self", prm] ["self", prm] (defScope stt))
    (hbd : defBody stt = [.Expr (.Call (.Attribute (.Name B p1) "__init__" p2) [.Name "self" p3, .Constant (.str m) j p4] [] p5) p6, .Assign [.Attribute (.Name "self" p7) f p8] (.Name prm p9) p10])
    (v0 : Vis (defScope stt) "self") (v1 : Vis (defScope stt) prm) (hp : (prm == ("__debug__" : Str)) = false) (hp2 : (prm == ("__classdict__" : Str)) = false) (hb : Binds G.K fd ["self", prm] [])
    (gB : (defScope stt).names.lookup B = some .globalImplicit) (mB : G.mg B = none) (bB : bootBuiltins B = some (.type Bn)) (tB : typeOf (.type Bn) = pure (.type "type")) (sB : Manifest.isStub Bn = false) (vV : PySem.W.findCls G.K (.type Bn) (.type "type") "__init__" = some (.val (.builtin ini)))
    (hi : PySem.W.handedIn (.builtin ini) = true) (nB : B ≠ "__name__") (dB : (B == ("__debug__" : Str)) = false)
    (hc : McOk (.Call (.Attribute (.Name B p1) "__init__" p2) [.Name "self" p3, .Constant (.str m) j p4] [] p5) p5 [.Name "self" p3, .Constant (.str m) j p4] p2 (.Name B p1)) : MkOk G 1 er f := by
  refine ⟨C, fI, fd, ["self", prm], Bn, nw, ini, tl, F, T.ox, gC, T.ini, T.fn, init_ok F Z T Fu sc hbd v0 v1 hp hp2 fun X ta eM eK eS ha => ?_, hb⟩
  have z := pe_bi (X := X) (p1 := p1) (p2 := p2) (pos := p5) (nw := nw) (tl := tl) F (show X.env.scope.names.lookup B = _ by rw [eS]; exact gB) (by rw [eM]; exact mB) bB tB sB (by rw [eK]; exact vV) hi ha nB dB (hc _)
  rw [eK] at z
  exact z
theorem mk_o {G : Wo} {C fI Cb : Addr} {er f B prm m : Str} {Bn nw ini : String} {tl : List Value} {x qual : Str} {stt : Stmt} {fd : FuncData} {p1 p2 p3 p4 p5 p6 p7 p8 p9 p10 : Pos} {j : Nat} (F : ExcBaseFacts Bn nw ini tl) (Z : Tl tl) (T : XC G.K C fI f nw tl) (gC : G.mg er = some (.ref C))
    (Fu : L2.Fun G.K x qual stt fI fd) (sc : FnScope ["self", prm] ["self", prm] (defScope stt))
    (hbd : defBody stt = [.Expr (.Call (.Attribute (.Name B p1) "__init__" p2) [.Name "self" p3, .Constant (.str m) j p4] [] p5) p6, .Assign [.Attribute (.Name "self" p7) f p8] (.Name prm p9) p10])
    (v0 : Vis (defScope stt) "self") (v1 : Vis (defScope stt) prm) (hp : (prm == ("__debug__" : Str)) = false) (hp2 : (prm == ("__classdict__" : Str)) = false) (hb : Binds G.K fd ["self", prm] [])
    (gB : (defScope stt).names.lookup B = some .globalImplicit) (mB : G.mg B = some (.ref Cb)) (hga : PySem.W.specialIn G.K (.ref Cb) "__getattribute__" = some (some (.builtin "type.__getattribute__"))) (hr : PySem.W.readsIn G.K Cb (.type "type") = true)
    (vV : PySem.W.findCls G.K (.ref Cb) (.type "type") "__init__" = some (.val (.builtin ini))) (hi : PySem.W.handedIn (.builtin ini) = true) (dB : (B == ("__debug__" : Str)) = false)
    (hc : McOk (.Call (.Attribute (.Name B p1) "__init__" p2) [.Name "self" p3, .Constant (.str m) j p4] [] p5) p5 [.Name "self" p3, .Constant (.str m) j p4] p2 (.Name B p1)) : MkOk G 1 er f := by
  refine ⟨C, fI, fd, ["self", prm], Bn, nw, ini, tl, F, T.ox, gC, T.ini, T.fn, init_ok F Z T Fu sc hbd v0 v1 hp hp2 fun X ta eM eK eS ha => ?_, hb⟩
  have z := pe_bo (X := X) (p1 := p1) (p2 := p2) (pos := p5) (nw := nw) (tl := tl) F (show X.env.scope.names.lookup B = _ by rw [eS]; exact gB) (by rw [eM]; exact mB) (by rw [eK]; exact hga) (by rw [eK]; exact hr) (by rw [eK]; exact vV) hi ha dB (hc _)
  rw [eK] at z
  exact z
end Pv
/-! two clauses; slices; ranges as values -/
namespace Pv
open PySem PySem.Spec PyProof.Rows L2
open Pg (TakesH Top XEA WB)
def compB2 (vs : List Nat) (g : FG) (t : FT) (I1 : FI) (vs1 : List Nat) (g1 : FG) (t1 : FT) (f : FE) : W → En → Rs (List W) := fun w env => match g w (wipeE env vs) with
  | none => .bad
  | some e1 => (t e1).bind fun b e2 => match b with
    | true => (I1 e2).bind fun ws e3 => compL (compB vs1 g1 t1 f) ws e3
    | false => .ok [] e2
def compL2 (body : W → En → Rs (List W)) : List W → En → Rs (List W)
  | [], env => .ok [] env
  | w :: ws, env => match body w env with
    | .ok ys e => (match compL2 body ws e with
      | .ok zs e2 => .ok (ys ++ zs) e2
      | _ => .bad)
    | _ => .bad
def Rs.back2 (r : Rs (List W)) (e0 : En) (vs : List Nat) : Rs W := match r with
  | .ok ys e => if ys.length ≤ sizeLine then .ok (.lst ys) (restE e0 (wipeE e vs) vs) else .bad
  | _ => .bad
def fComp2 (I : FI) (vs : List Nat) (g : FG) (t : FT) (I1 : FI) (vs1 : List Nat) (g1 : FG) (t1 : FT) (f : FE) : FE := fun env => (I env).bind fun ws e1 => if noAl e1 vs = true then (compL2 (compB2 vs g t I1 vs1 g1 t1 f) ws e1).back2 e1 vs else .bad
theorem wipe_sub (σ : L2.St) {vs vs1 : List Nat} (h : ∀ i ∈ vs1, i ∈ vs) : wipe (wipe σ vs1) vs = wipe σ vs := by
  refine List.ext_getElem? fun j => ?_
  rw [wipe_get, wipe_get, wipe_get, wipe_len]
  by_cases q : j ∈ vs ∧ j < σ.length
  · rw [if_pos q, if_pos q]
  · rw [if_neg q, if_neg q, if_neg fun z => q ⟨h j z.1, z.2⟩]
theorem wipeE_sub (σ : En) {vs vs1 : List Nat} (h : ∀ i ∈ vs1, i ∈ vs) : wipeE (wipeE σ vs1) vs = wipeE σ vs := by
  refine List.ext_getElem? fun j => ?_
  rw [wipeE_get, wipeE_get, wipeE_get, wipeE_len]
  by_cases q : j ∈ vs ∧ j < σ.length
  · rw [if_pos q, if_pos q]
  · rw [if_neg q, if_neg q, if_neg fun z => q ⟨h j z.1, z.2⟩]
section
variable {S : Ctx} {pos : Pos}
/-- the list that is filled, as it stands -/
structure Fil (S : Ctx) (B : Fx) (D : Addr) (F1 F2 H2 : Hp) (acc : List W) (av : List V) : Prop where
  le : Le F1 F2
  r : Rvs S.g F2 acc av
theorem comp_rd2 {tg iter tg1 iter1 elt : Expr} {ifs ifs1 : List Expr} {scope : Scope} {vs is vs1 is1 : List Nat} {I I1 : FI} {g g1 : FG} {t t1 : FT} {f : FE} (hi : RI S tg iter I) (hg : RG (S.blk scope) tg is g) (his : ∀ i ∈ is, i ∈ vs) (ht : RTs (S.blk scope) ifs t)
    (hi1 : RI (S.blk scope) tg1 iter1 I1) (hg1 : RG (S.blk scope) tg1 is1 g1) (his1 : ∀ i ∈ is1, i ∈ vs1) (ht1 : RTs (S.blk scope) ifs1 t1) (he : RE (S.blk scope) elt f) (hv : ∀ i ∈ vs1, i ∈ vs)
    {W : WX} {B : Fx} {env : En} {F : Hp} {σ : L2.St} {H : Hp} {Q : VK} (at_ : At S B env F σ H) (q : PoO S B σ F (fun c d H' => W c d σ H') Q (fComp2 I vs g t I1 vs1 g1 t1 f env)) :
    tLc2 (UI S W tg iter) (UG (S.blk scope) WF tg) (UTs (S.blk scope) WF ifs) (UI (S.blk scope) WF tg1 iter1) (UG (S.blk scope) WF tg1) (UTs (S.blk scope) WF ifs1) (UE (S.blk scope) WF elt) vs vs1 σ H Q := by
  refine hi W B env F σ H _ at_ (Po.bndO q fun ws e1 J F1 H1 _ l1 a1 r1 q1 => fun D hD => ?_)
  split at q1
  case isFalse => exact q1.elim
  rename_i hno
  have hD1 : F1 D = none := none_le a1.le hD
  have hDB : B.B D = none := none_le a1.fr hD
  obtain ⟨zs, ez, ec, hz⟩ : ∃ zs ez, compL2 (compB2 vs g t I1 vs1 g1 t1 f) ws e1 = .ok zs ez ∧ zs.length ≤ sizeLine := by
    cases e : compL2 (compB2 vs g t I1 vs1 g1 t1 f) ws e1 with
    | ok zs ez =>
      rw [e] at q1
      unfold Rs.back2 at q1
      dsimp only at q1
      split at q1
      · rename_i h
        exact ⟨zs, ez, rfl, h⟩
      · exact q1.elim
    | exc x ez => rw [e] at q1; exact q1.elim
    | bad => rw [e] at q1; exact q1.elim
  have q2 : PoO S B σ F1 (fun c d H' => W c d σ H') Q (.ok (.lst zs) (restE e1 (wipeE ez vs) vs)) := by
    rw [ec] at q1
    unfold Rs.back2 at q1
    dsimp only at q1
    rw [if_pos hz] at q1
    exact q1
  clear q q1
  let BD : List V → Fx := fun av => { B with B := upd B.B D (.lst av) }
  let St : Nat → List Pv.W → En → Hp → Hp → Prop := fun i acc ev F2 H2 => ∃ av, At S (BD av) (wipeE ev vs) F2 (wipe σ vs) H2 ∧ Le F1 F2 ∧ Rvs S.g F2 acc av ∧ ∃ ys, compL2 (compB2 vs g t I1 vs1 g1 t1 f) (ws.drop i) ev = .ok ys ez ∧ acc ++ ys = zs
  have start : St 0 [] e1 F1 (upd H1 D (.lst [])) := by
    refine ⟨[], ?_, .refl _, .nil, zs, by rw [List.drop_zero]; exact ec, rfl⟩
    have a0 := (a1.newO hD (.lst [])).wipe vs
    refine a0.push (.lst []) hD1 (fun i ev w h1 h2 h3 => ?_) upd_same
    have h1' := h1
    rw [wipeE_get] at h1'
    by_cases qq : i ∈ vs ∧ i < e1.length
    · rw [if_pos qq] at h1'; cases h1'
    · rw [if_neg qq] at h1'
      rw [wipe_get, if_neg (by rw [← a1.len]; exact qq)] at h3
      exact a1.ne_own hD i ev w h1' h2 h3
  have fin : ∀ {av : List V} {ev : En} {F2 H2 : Hp}, At S (BD av) (wipeE ev vs) F2 (wipe σ vs) H2 → Le F1 F2 → At S B (restE e1 (wipeE ev vs) vs) F2 σ H2 ∧ F2 D = none ∧ H2 D = some (.lst av) ∧ Free (restE e1 (wipeE ev vs) vs) σ D := fun {av ev F2 H2} aw l => by
    obtain ⟨b, z1, z2, z3⟩ := aw.pop hDB
    refine ⟨a1.rest b l hno, z1, z2, fun i ev' w h1 h2 h3 => ?_⟩
    rw [restE_get] at h1
    by_cases qq : i ∈ vs ∧ i < (wipeE ev vs).length
    · rw [if_pos qq] at h1
      cases e : e1[i]? with
      | none => rw [e] at h1; cases h1
      | some x =>
        rw [e] at h1
        have z : x = some ev' := Option.some.inj h1
        rw [z] at e
        have nz := noAl_ok hno i qq.1
        unfold alW at nz
        rw [e] at nz
        dsimp only at nz
        rw [nz] at h2
        cases h2
    · rw [if_neg qq] at h1
      refine z3 i ev' w h1 h2 ?_
      rw [wipe_get, if_neg (by
        have hl : (wipeE ev vs).length = σ.length := by rw [b.len, wipe_len]
        rw [← hl]; exact qq)]
      exact h3
  refine ⟨fun i m H' => m = ws.length - i ∧ i ≤ ws.length ∧ ∃ acc ev F2, St i acc ev F2 H', ⟨ws.length, rfl, Nat.zero_le _, [], _, _, start⟩, ?_⟩
  rintro i m H2 ⟨rfl, hi', acc, ev, F2, av, a2, l2, ra, ys, hc, hys⟩
  have src := r1 (BD av) _ F2 (wipe σ vs) H2 l2 a2 i
  cases e : ws[i]? with
  | none =>
    have hd : ws.drop i = [] := List.drop_eq_nil_of_le (List.getElem?_eq_none_iff.mp e)
    rw [hd] at hc
    cases hc
    rw [List.append_nil] at hys
    subst hys
    refine .inl ⟨src.1 e, ?_⟩
    obtain ⟨b, z1, z2, z3⟩ := fin a2 l2
    exact q2 D _ F2 H2 l2 b z1 hDB z3 z2 (.lst ra hz)
  | some w =>
    have hlt : i < ws.length := (List.getElem?_eq_some_iff.mp e).1
    have hd : ws.drop i = w :: ws.drop (i + 1) := by
      rw [List.drop_eq_getElem_cons hlt]
      have := (List.getElem?_eq_some_iff.mp e).2
      rw [this]
    rw [hd] at hc
    unfold compL2 at hc
    obtain ⟨y1, ev1, eb, y2, er, rfl⟩ : ∃ y1 ev1, compB2 vs g t I1 vs1 g1 t1 f w ev = .ok y1 ev1 ∧ ∃ y2, compL2 (compB2 vs g t I1 vs1 g1 t1 f) (ws.drop (i + 1)) ev1 = .ok y2 ez ∧ y1 ++ y2 = ys := by
      cases eb : compB2 vs g t I1 vs1 g1 t1 f w ev with
      | ok y1 ev1 =>
        rw [eb] at hc
        dsimp only at hc
        cases er : compL2 (compB2 vs g t I1 vs1 g1 t1 f) (ws.drop (i + 1)) ev1 with
        | ok y2 e9 => rw [er] at hc; cases hc; exact ⟨y1, ev1, rfl, y2, er, rfl⟩
        | exc x e9 => rw [er] at hc; cases hc
        | bad => rw [er] at hc; cases hc
      | exc x e9 => rw [eb] at hc; cases hc
      | bad => rw [eb] at hc; cases hc
    clear hc
    obtain ⟨go, yl⟩ := src.2 w e
    refine .inr ⟨go, fun H' => ∃ m', m' < ws.length - i ∧ m' = ws.length - (i + 1) ∧ i + 1 ≤ ws.length ∧ ∃ acc ev F2, St (i + 1) acc ev F2 H', fun H' z => z, fun x H3 y => ?_⟩
    obtain ⟨F3, l3, a3, rx, _⟩ := yl x H3 y
    have l13 := l2.trans l3
    unfold compB2 at eb
    cases eg : g w (wipeE ev vs) with
    | none => rw [eg] at eb; cases eb
    | some e2 =>
      rw [eg] at eb
      dsimp only at eb
      have an : At (S.blk scope) (BD av) (wipeE ev vs) F3 (wipe σ vs) H3 := a3.cast rfl
      refine hg _ w x _ _ e2 F3 _ H3 _ an rx eg fun σ' at' outs => ⟨wipe_out outs his, ?_⟩
      have hw' := wipe_out outs his
      refine ht _ _ e2 F3 σ' H3 _ at' ?_
      cases et : t e2 with
      | bad => rw [et] at eb; cases eb
      | exc y e3 => rw [et] at eb; cases eb
      | ok bt e3 =>
        rw [et] at eb
        intro bt' F4 H4 l4 a4 rb
        cases (show bt = bt' from rb)
        have l14 := l13.trans l4
        cases bt with
        | false =>
          cases eb
          refine iteF ⟨ws.length - (i + 1), by omega, rfl, hlt, acc, ev1, F4, av, ?_, l14, ra.le (l3.trans l4), y2, er, by simpa using hys⟩
          have z := a4.wipe vs
          rw [hw'] at z
          exact z.cast rfl
        | true =>
          refine iteT ?_
          have eb' : (I1 e3).bind (fun ws e4 => compL (compB vs1 g1 t1 f) ws e4) = .ok y1 ev1 := eb
          refine hi1 WF (BD av) e3 F4 σ' H4 _ a4 ?_
          cases ei : I1 e3 with
          | bad => rw [ei] at eb'; cases eb'
          | exc x e9 => rw [ei] at eb'; cases eb'
          | ok us e4 =>
            rw [ei] at eb'
            have ec1 : compL (compB vs1 g1 t1 f) us e4 = .ok y1 ev1 := eb'
            intro J1 F5 H5 l5 a5 rs
            have l15 := l14.trans l5
            let Si : Nat → List Pv.W → En → Hp → Hp → Prop := fun j acc' ev' F6 H6 => ∃ av', At (S.blk scope) (BD av') (wipeE ev' vs1) F6 (wipe σ' vs1) H6 ∧ Le F5 F6 ∧ Rvs S.g F6 acc' av' ∧ ∃ ys', compL (compB vs1 g1 t1 f) (us.drop j) ev' = .ok ys' ev1 ∧ acc' ++ ys' = acc ++ y1
            refine ⟨fun j k H6 => k = us.length - j ∧ j ≤ us.length ∧ ∃ acc' ev' F6, Si j acc' ev' F6 H6, ⟨us.length, rfl, Nat.zero_le _, acc, e4, F5, av, a5.wipe vs1, .refl _, ra.le (l3.trans (l4.trans l5)), y1, by rw [List.drop_zero]; exact ec1, rfl⟩, ?_⟩
            rintro j k H6 ⟨rfl, hj', acc', ev', F6, av', a6, l6, ra6, ys', hc6, hy6⟩
            have src6 := rs (BD av') _ F6 (wipe σ' vs1) H6 l6 a6 j
            cases ej : us[j]? with
            | none =>
              have hd6 : us.drop j = [] := List.drop_eq_nil_of_le (List.getElem?_eq_none_iff.mp ej)
              rw [hd6] at hc6
              cases hc6
              rw [List.append_nil] at hy6
              subst hy6
              refine .inl ⟨src6.1 ej, ws.length - (i + 1), by omega, rfl, hlt, acc ++ y1, ev1, F6, av', ?_, l15.trans l6, ra6, y2, er, by rw [List.append_assoc]; exact hys⟩
              have z := a6.wipe vs
              rw [wipe_sub _ hv, wipeE_sub _ hv, hw'] at z
              exact z.cast rfl
            | some w6 =>
              have hlt6 : j < us.length := (List.getElem?_eq_some_iff.mp ej).1
              have hd6 : us.drop j = w6 :: us.drop (j + 1) := by
                rw [List.drop_eq_getElem_cons hlt6]
                have := (List.getElem?_eq_some_iff.mp ej).2
                rw [this]
              rw [hd6] at hc6
              unfold compL at hc6
              obtain ⟨go6, yl6⟩ := src6.2 w6 ej
              refine .inr ⟨go6, fun H' => ∃ k', k' < us.length - j ∧ k' = us.length - (j + 1) ∧ j + 1 ≤ us.length ∧ ∃ acc' ev' F6, Si (j + 1) acc' ev' F6 H', fun H' z => z, fun x7 H7 y7 => ?_⟩
              obtain ⟨F7, l7, a7, rx7, _⟩ := yl6 x7 H7 y7
              cases eg6 : g1 w6 (wipeE ev' vs1) with
              | none => rw [show compB vs1 g1 t1 f w6 ev' = .bad from by unfold compB; rw [eg6]] at hc6; cases hc6
              | some e6 =>
                rw [show compB vs1 g1 t1 f w6 ev' = ((t1 e6).bind fun b e2 => match b with
                  | true => (f e2).bind fun y e3 => .ok (some y) e3
                  | false => .ok none e2) from by unfold compB; rw [eg6] <;> rfl] at hc6
                refine hg1 _ w6 x7 _ _ e6 F7 _ H7 _ a7 rx7 eg6 fun σ8 at8 out8 => ⟨wipe_out out8 his1, ?_⟩
                have hw8 := wipe_out out8 his1
                refine ht1 _ _ e6 F7 σ8 H7 _ at8 ?_
                cases et6 : t1 e6 with
                | bad => rw [et6] at hc6; cases hc6
                | exc y e9 => rw [et6] at hc6; cases hc6
                | ok bt6 e7 =>
                  rw [et6] at hc6
                  intro bt7 F8 H8 l8 a8 rb8
                  cases (show bt6 = bt7 from rb8)
                  have l68 := l6.trans (l7.trans l8)
                  cases bt6 with
                  | false =>
                    have hc7 : compL (compB vs1 g1 t1 f) (us.drop (j + 1)) e7 = .ok ys' ev1 := hc6
                    refine iteF ⟨us.length - (j + 1), by omega, rfl, hlt6, acc', e7, F8, av', ?_, l68, ra6.le (l7.trans l8), ys', hc7, hy6⟩
                    have z := a8.wipe vs1
                    rw [hw8] at z
                    exact z
                  | true =>
                    refine iteT ?_
                    refine he _ _ e7 F8 σ8 H8 _ a8 ?_
                    have hc7 : (match (f e7).bind fun y e3 => .ok (some y) e3 with
                      | .ok (some y) e => (compL (compB vs1 g1 t1 f) (us.drop (j + 1)) e).bind fun ys e2 => .ok (y :: ys) e2
                      | .ok none e => compL (compB vs1 g1 t1 f) (us.drop (j + 1)) e
                      | .exc x e => .exc x e
                      | .bad => .bad) = Rs.ok ys' ev1 := hc6
                    cases ee : f e7 with
                    | bad => rw [ee] at hc7; cases hc7
                    | exc y e9 => rw [ee] at hc7; cases hc7
                    | ok yv e8 =>
                      rw [ee] at hc7
                      have hc8 : (compL (compB vs1 g1 t1 f) (us.drop (j + 1)) e8).bind (fun ys e2 => .ok (yv :: ys) e2) = Rs.ok ys' ev1 := hc7
                      obtain ⟨y9, hc9, rfl⟩ : ∃ y9, compL (compB vs1 g1 t1 f) (us.drop (j + 1)) e8 = .ok y9 ev1 ∧ yv :: y9 = ys' := by
                        cases e9 : compL (compB vs1 g1 t1 f) (us.drop (j + 1)) e8 with
                        | ok y9 e10 => rw [e9] at hc8; cases hc8; exact ⟨y9, rfl, rfl⟩
                        | exc x e10 => rw [e9] at hc8; cases hc8
                        | bad => rw [e9] at hc8; cases hc8
                      intro v F9 H9 l9 a9 rv
                      have z := a9.wipe vs1
                      rw [hw8] at z
                      obtain ⟨b, b1, b2, b3⟩ := z.pop hDB
                      refine ⟨av', b2, ?_, us.length - (j + 1), by omega, rfl, hlt6, acc' ++ [yv], e8, F9, av' ++ [v], ?_, l68.trans l9, (ra6.le (l7.trans (l8.trans l9))).append (.cons rv .nil), y9, hc9, by rw [List.append_assoc]; exact hy6⟩
                      · rw [ra6.length]
                        have z1 : (acc' ++ yv :: y9).length = (acc ++ y1).length := by rw [hy6]
                        have z2 : (acc ++ (y1 ++ y2)).length = zs.length := by rw [hys]
                        simp at z1 z2
                        omega
                      · exact (b.wr b1 hDB b3 b2 (.lst _)).push (.lst _) b1 b3 upd_same
theorem rf_comp2 {tg iter tg1 iter1 elt : Expr} {ifs ifs1 : List Expr} {scope : Scope} {own : List (Str × Nat)} {is is1 vs1 : List Nat} {I I1 : FI} {g g1 : FG} {t t1 : FT} {f : FE} (ok0 : blkC S.N S.sc scope own = true) (hi : RI S tg iter I) (hg : RG (S.blk scope) tg is g) (ht : RTs (S.blk scope) ifs t)
    (hi1 : RI (S.blk scope) tg1 iter1 I1) (hg1 : RG (S.blk scope) tg1 is1 g1) (ht1 : RTs (S.blk scope) ifs1 t1) (he : RE (S.blk scope) elt f) (his : ∀ i ∈ is, i ∈ own.map (·.2) := by decide) (his1 : ∀ i ∈ is1, i ∈ vs1 := by decide) (hv : ∀ i ∈ vs1, i ∈ own.map (·.2) := by decide)
    (hs : ∀ (env : Env) (x : Value), foldedSetIterable iter env x = pure x := by intro _ _; rfl) (hs1 : ∀ (env : Env) (x : Value), foldedSetIterable iter1 env x = pure x := by intro _ _; rfl) :
    RF S (.ListComp elt [⟨tg, iter, ifs, 0⟩, ⟨tg1, iter1, ifs1, 0⟩] scope pos) (fComp2 I (own.map (·.2)) g t I1 vs1 g1 t1 f) := fun W B env F σ H Q at_ q =>
  ⟨_, fun X ok => pe_lc2 ok.calm ok.nodup (ui_pi ok) (by rw [ok.N, ok.sc]; exact blkOk_by ok0) hv (fun s H C cl fp => ug_pg (blk_ok ok scope s H C cl fp)) (fun s H C cl fp => uts_pts (blk_ok ok scope s H C cl fp)) (fun s H C cl fp => ui_pi (blk_ok ok scope s H C cl fp)) (fun s H C cl fp => ug_pg (blk_ok ok scope s H C cl fp)) (fun s H C cl fp => uts_pts (blk_ok ok scope s H C cl fp)) (fun s H C cl fp => ue_pe (blk_ok ok scope s H C cl fp)) (hs _) hs1,
    comp_rd2 hi hg his ht hi1 hg1 his1 ht1 he hv at_ q⟩
theorem re_comp2 {tg iter tg1 iter1 elt : Expr} {ifs ifs1 : List Expr} {scope : Scope} {own : List (Str × Nat)} {is is1 vs1 : List Nat} {I I1 : FI} {g g1 : FG} {t t1 : FT} {f : FE} (ok0 : blkC S.N S.sc scope own = true) (hi : RI S tg iter I) (hg : RG (S.blk scope) tg is g) (ht : RTs (S.blk scope) ifs t)
    (hi1 : RI (S.blk scope) tg1 iter1 I1) (hg1 : RG (S.blk scope) tg1 is1 g1) (ht1 : RTs (S.blk scope) ifs1 t1) (he : RE (S.blk scope) elt f) (his : ∀ i ∈ is, i ∈ own.map (·.2) := by decide) (his1 : ∀ i ∈ is1, i ∈ vs1 := by decide) (hv : ∀ i ∈ vs1, i ∈ own.map (·.2) := by decide)
    (hs : ∀ (env : Env) (x : Value), foldedSetIterable iter env x = pure x := by intro _ _; rfl) (hs1 : ∀ (env : Env) (x : Value), foldedSetIterable iter1 env x = pure x := by intro _ _; rfl) :
    RE S (.ListComp elt [⟨tg, iter, ifs, 0⟩, ⟨tg1, iter1, ifs1, 0⟩] scope pos) (fComp2 I (own.map (·.2)) g t I1 vs1 g1 t1 f) := re_rf (rf_comp2 ok0 hi hg ht hi1 hg1 ht1 he his his1 hv hs hs1)
theorem rs_owncomp2 {i : Nat} {y : Str} {py spos : Pos} {tg iter tg1 iter1 elt : Expr} {ifs ifs1 : List Expr} {scope : Scope} {own : List (Str × Nat)} {is is1 vs1 : List Nat} {I I1 : FI} {g g1 : FG} {t t1 : FT} {f : FE} (hy : S.N[i]? = some y) (hyl : S.sc.names.lookup y = some .local)
    (hsw : ∀ env : Env, env.scope = S.sc → swapsWith (.ListComp elt [⟨tg, iter, ifs, 0⟩, ⟨tg1, iter1, ifs1, 0⟩] scope pos) (some (.Name y py)) spos.line env = pure true)
    (ok0 : blkC S.N S.sc scope own = true) (hi : RI S tg iter I) (hg : RG (S.blk scope) tg is g) (ht : RTs (S.blk scope) ifs t)
    (hi1 : RI (S.blk scope) tg1 iter1 I1) (hg1 : RG (S.blk scope) tg1 is1 g1) (ht1 : RTs (S.blk scope) ifs1 t1) (he : RE (S.blk scope) elt f) (his : ∀ i ∈ is, i ∈ own.map (·.2) := by decide) (his1 : ∀ i ∈ is1, i ∈ vs1 := by decide) (hv : ∀ i ∈ vs1, i ∈ own.map (·.2) := by decide)
    (hs : ∀ (env : Env) (x : Value), foldedSetIterable iter env x = pure x := by intro _ _; rfl) (hs1 : ∀ (env : Env) (x : Value), foldedSetIterable iter1 env x = pure x := by intro _ _; rfl) :
    RS S (.Assign [.Name y py] (.ListComp elt [⟨tg, iter, ifs, 0⟩, ⟨tg1, iter1, ifs1, 0⟩] scope pos) spos) (sOwn i (fComp2 I (own.map (·.2)) g t I1 vs1 g1 t1 f)) := by
  intro W B env F σ H D at_ h
  refine ⟨_, fun X ok => ps_setLc2 ok.calm ok.nodup (by rw [ok.N]; exact hy) (by rw [ok.sc]; exact hyl) (hsw _ ok.sc) (ui_pi ok) (by rw [ok.N, ok.sc]; exact blkOk_by ok0) hv (fun s H C cl fp => ug_pg (blk_ok ok scope s H C cl fp)) (fun s H C cl fp => uts_pts (blk_ok ok scope s H C cl fp)) (fun s H C cl fp => ui_pi (blk_ok ok scope s H C cl fp)) (fun s H C cl fp => ug_pg (blk_ok ok scope s H C cl fp)) (fun s H C cl fp => uts_pts (blk_ok ok scope s H C cl fp)) (fun s H C cl fp => ue_pe (blk_ok ok scope s H C cl fp)) (hs _) hs1, ?_⟩
  refine comp_rd2 (W := W) hi hg his ht hi1 hg1 his1 ht1 he hv at_ (PoO.stm h fun w e1 p o F1 H1 _ l1 a1 f1 f2 f3 f4 rc q1 => ?_)
  exact q1 F1 _ H1 (.refl _) (a1.setO i f1 f2 f3 f4 rc)

/-! ### slices -/
def cutW (xs : List W) (lo hi : Option Int) : List W := (xs.drop (HT.sIx xs.length 0 lo)).take (HT.sIx xs.length xs.length hi - HT.sIx xs.length 0 lo)
theorem Rvs.cut {S : Wo} {F : Hp} {ws : List W} {vs : List V} (lo hi : Option Int) (h : Rvs S F ws vs) : Rvs S F (cutW ws lo hi) (cutV vs lo hi) := by
  unfold cutW cutV
  rw [h.length]
  exact (h.drop _).take _
def EqO : Hp → Option Int → Option Int → Prop := fun _ a b => a = b
abbrev FO := En → Rs (Option Int)
def UO (S : Ctx) (W : WX) (p : Option Expr) : TO := fun σ H Q => ∃ t, (∀ X, S.Ok W X → PO X p t) ∧ t σ H Q
theorem uo_po {S : Ctx} {W : WX} {X : Cx} {p : Option Expr} (ok : S.Ok W X) : PO X p (UO S W p) := ⟨fun pins s σ H Q I ⟨t, h, q⟩ => (h X ok).run pins s σ H Q I q⟩
def RO (S : Ctx) (p : Option Expr) (f : FO) : Prop := ∀ (W : WX) B env F σ H (Q : Option Int → Hp → Prop), At S B env F σ H → Po S B σ F EqO (fun c d H' => W c d σ H') Q (f env) → UO S W p σ H Q
def fNo : FO := fun env => .ok none env
def fPt (f : FE) : FO := fun env => (f env).bind fun x e1 => match x with
  | .int i => .ok (some i) e1
  | _ => .bad
theorem ro_no {S : Ctx} : RO S none fNo := fun W B env F σ H Q at_ q => ⟨tNoPart, fun X ok => po_none, q none F H (.refl F) at_ rfl⟩
theorem ro_pt {S : Ctx} {e : Expr} {f : FE} (h : RE S e f) : RO S (some e) (fPt f) := by
  intro W B env F σ H Q at_ q
  refine ⟨tPart (UE S W e), fun X ok => po_some (ue_pe ok), h W B env F σ H _ at_ (Po.bnd q fun x e1 v F1 H1 _ l1 a1 r1 q1 => ?_)⟩
  split at q1
  · cases r1
    exact ⟨_, rfl, q1 _ F1 H1 (.refl _) a1 rfl⟩
  · exact q1.elim
def cutX (x : W) (lo hi : Option Int) : Option W := match x with
  | .lst xs => if (cutW xs lo hi).length ≤ sizeLine then some (.lst (cutW xs lo hi)) else none
  | .tup xs => if ¬ (HT.sIx xs.length 0 lo = 0 ∧ HT.sIx xs.length xs.length hi = xs.length) then some (.tup (cutW xs lo hi)) else none
  | _ => none
def fSl (f : FE) (l u : FO) : FE := fun env => (f env).bind fun x e1 => (l e1).bind fun lo e2 => (u e2).bind fun hi e3 => ofO (cutX x lo hi) e3
theorem re_sl {S : Ctx} {e : Expr} {lo hi : Option Expr} {f : FE} {l u : FO} {p2 pos : Pos} (ha : RE S e f) (hl : RO S lo l) (hu : RO S hi u) : RE S (.Subscript e (.Slice lo hi none p2) pos) (fSl f l u) := by
  intro W B env F σ H Q at_ q
  refine ⟨tSl (fun x lo hi H Q => rSlT S.g.K x lo hi H Q ∨ rSlL S.g.K x lo hi H Q) (UE S W e) (UO S W lo) (UO S W hi), fun X ok => ?_, ha W B env F σ H _ at_ (Po.bnd q fun x e1 v F1 H1 _ l1 a1 r1 q1 => ?_)⟩
  · rw [← ok.K]
    exact pe_slice (SlR.or sl_tup sl_list) (ue_pe ok) (uo_po ok) (uo_po ok)
  refine hl W B e1 F1 σ H1 _ a1 (Po.bnd q1 fun lo e2 lo' F2 H2 _ l2 a2 r2 q2 => ?_)
  obtain rfl : lo = lo' := r2
  refine hu W B e2 F2 σ H2 _ a2 (Po.bnd q2 fun hi e3 hi' F3 H3 _ l3 a3 r3 q3 => ?_)
  obtain rfl : hi = hi' := r3
  have rx := r1.le (l2.trans l3)
  obtain ⟨z, ez, n⟩ := q3.ofO
  unfold cutX at ez
  split at ez
  · split at ez
    · rename_i hz
      cases ez
      cases rx with
      | lst ht hr => exact .inr ⟨_, _, rfl, .of (a3.le _ _ ht), fun p hp => nx_lst n a3 (hr.cut _ _) hp⟩
    · cases ez
  · split at ez
    · rename_i hw
      cases ez
      cases rx with
      | tup ht hr => exact .inl ⟨_, _, rfl, .of (a3.le _ _ ht), by rw [hr.length]; exact hw, fun p hp => nx_tup n a3 (hr.cut _ _) hp⟩
    · cases ez
  · cases ez
/-! ### ranges as values -/
def rRgV : List V → Hp → VK → Prop := fun vs H Q => (∃ j, vs = [V.int j] ∧ ∀ p, H p = none → Q (.ref p) (upd H p (.rng 0 j))) ∨ ∃ i j, vs = [V.int i, V.int j] ∧ ∀ p, H p = none → Q (.ref p) (upd H p (.rng i j))
theorem cr_rgV {X : Cx} : CallR X (.type "range") rRgV := by
  intro pins s σ H vs us Q I r h
  rcases h with ⟨j, rfl, q⟩ | h
  · obtain ⟨u, rfl, rj⟩ := vals1 r
    obtain ⟨t, rfl⟩ := rj
    refine call_range_1 ⟨.ref s.heap.objs.size, upd H s.heap.objs.size (.rng 0 j), I.laid (t' := s.toks + 1 + 1) (fun b o e => Heap.get?_push_of_some _ e) (Nat.le_refl _) ?_, rfl, q _ (I.hok.fresh (Nat.le_refl _))⟩
    exact ⟨_, _, _, Heap.get?_push_size _ rfl⟩
  · exact cr_range2 pins s σ H vs us Q I r h
def fRgV (ws : List W) : Option W := match ws with
  | [.int j] => some (.rg 0 j)
  | [.int i, .int j] => some (.rg i j)
  | _ => none
theorem nx_rg {B : Fx} {env : En} {F : Hp} {σ : L2.St} {H : Hp} {Q : VK} {i j : Int} {p : Addr} (n : Nx S B env F σ Q (.rg i j)) (a : At S B env F σ H) (hp : H p = none) : Q (.ref p) (upd H p (.rng i j)) :=
  n _ _ _ (Le.new (none_le a.le hp)) (a.new hp _) (.rg upd_same)
theorem c_rgV : CbOk S (.type "range") fRgV := by
  intro Wx B env F σ H ws vs z Q a rv q n
  unfold fRgV at q
  split at q
  · cases q
    cases rv with
    | cons r1 rv => cases rv; cases r1; exact ⟨rRgV, fun X ok => cr_rgV, .inl ⟨_, rfl, fun p hp => nx_rg n a hp⟩⟩
  · cases q
    cases rv with
    | cons r1 rv => cases rv with
      | cons r2 rv => cases rv; cases r1; cases r2; exact ⟨rRgV, fun X ok => cr_rgV, .inr ⟨_, _, rfl, fun p hp => nx_rg n a hp⟩⟩
  · cases q
end
end Pv
/-! the law's end: tables of code objects, nothing being shown, the script that nobody changes. -/
namespace Pv
open PySem PySem.Spec PyProof.Rows L2 LamX
def SqR (K : PySem.W.Frag) (H : Hp) (a : Addr) (xs : List V) : Prop :=
  (∃ o : Obj, H a = some (.frz o (.lst xs))) ∨ ∃ (o : Obj) (its : Array Value) (n : Nat), K.lookup a = some o ∧ o.cls = .type "list" ∧ o.dict = none ∧ o.data = .seq its n ∧ its.size ≤ sizeLine ∧ Vals xs its.toList
abbrev listO (vs : List Value) : Obj := { cls := .type "list", data := .seq vs.toArray }
abbrev tabO (ps : Array Value) : Obj := { cls := .none, data := .fields ps }
open Classical in
/-- the tables, and the script where the written part does not tell it -/
noncomputable def topH (K : PySem.W.Frag) (ts : List Addr) (a : Addr) (vs : List Value) (ns : List Int) : Hp := fun b =>
  if b ∈ ts then some (.tbl #[]) else if b = a ∧ K.lookup a = none then some (.frz (listO vs) (.lst (ns.map V.int))) else none
theorem law_top {P : Program} {w : World} {K : PySem.W.Frag} {mg mb : Str → Option Value} {CX : CXT} {k : Nat} {fa a : Addr} {cs : List (Addr × Addr)} {fd : FuncData} {x : Str} {sp : Sp} {s1 : Shared} {vs : List Value} {ns : List Int} (KX : K.In s1.heap)
    (hns : s1.heap.Ns mainGlobals mg) (hb : s1.heap.Ns builtinsNs mb) (hbb : ∀ x : Str, x ≠ "__name__" → mb x = bootBuiltins x) (hlim : s1.heap.NoLimit) (hg : s1.gens = #[]) (hT : ∀ p ∈ cs, s1.heap.get? p.2 = some (tabO #[])) (nT : ∀ p ∈ cs, K.lookup p.2 = none)
    (C : ∀ p ∈ cs, PySem.W.CodeHd s1.heap p.1 p.2) (hbm : ∃ (bm : Addr) (ob : Obj), mg "__builtins__" = some (.ref bm) ∧ bm ≠ builtinsNs ∧ s1.heap.get? bm = some ob ∧ ob.cls = .type "module" ∧ ob.dict = some builtinsNs ∧ ob.data = .plain)
    (ha : s1.heap.get? a = some (listO vs)) (hi : IntsAre vs ns) (hl : ns.length ≤ sizeLine) (hr : Room k callerA) (F : ∀ base : Heap, K.In base → base.Ns mainGlobals mg → (∀ p ∈ cs, TabB base mg p.1 p.2) → FnG P w K mg base CX k fa fd [x] sp)
    (hbind : ∀ (s : Shared) (u : Value), BindsTo s fd ⟨[u], []⟩ [(x, u)]) (hsp : ∀ H : Hp, (∀ p ∈ cs, H p.2 = some (.tbl #[])) → SqR K H a (ns.map V.int) → sp [.ref a] H (fun v _ => v = .bl true) fun _ _ _ => False)
    (hCX : ∀ H e s', CX [] H s1 (fun _ _ _ => False) e s' → False) :
    codeAny (model P w) callerA (.call (.ref fa) ⟨[.ref a], []⟩) (fun r s' => r = .ok (.ret (.bool true)) ∧ OldK s1.heap s'.heap ∧ s'.os = s1.os ∧ AllBare s'.gens) s1 := by
  have rv := vals_ints hi
  have lenV := hi.length
  have isT : ∀ b, b ∈ cs.map (·.2) → s1.heap.get? b = some (tabO #[]) := by
    intro b hb
    obtain ⟨p, hp, rfl⟩ := List.mem_map.mp hb
    exact hT p hp
  have aT : a ∉ cs.map (·.2) := by
    intro z
    have q := congrArg Obj.data (Option.some.inj ((isT a z).symm.trans ha))
    cases q
  obtain ⟨H, eH⟩ : ∃ H, H = topH K (cs.map (·.2)) a vs ns := ⟨_, rfl⟩
  have onT : ∀ p ∈ cs, H p.2 = some (.tbl #[]) := by
    intro p hp
    rw [eH]
    exact if_pos (List.mem_map.mpr ⟨p, hp, rfl⟩)
  have all : ∀ b u, H b = some u → (b ∈ cs.map (·.2) ∧ u = .tbl #[]) ∨ (b ∉ cs.map (·.2) ∧ b = a ∧ K.lookup a = none ∧ u = .frz (listO vs) (.lst (ns.map V.int))) := by
    intro b u e
    rw [eH] at e
    unfold topH at e
    split at e
    · rename_i q
      cases e
      exact .inl ⟨q, rfl⟩
    · rename_i q1
      split at e
      · rename_i q2
        cases e
        exact .inr ⟨q1, q2.1, q2.2, rfl⟩
      · cases e
  have seqA : SqR K H a (ns.map V.int) := by
    cases hk : K.lookup a with
    | some o =>
      have e := KX a o hk
      rw [ha] at e
      cases e
      exact .inr ⟨_, vs.toArray, _, hk, rfl, rfl, rfl, by rw [List.size_toArray, lenV]; exact hl, by simpa using rv⟩
    | none =>
      refine .inl ⟨listO vs, ?_⟩
      rw [eH]
      unfold topH
      rw [if_neg aT, if_pos ⟨rfl, hk⟩]
  have hok : HOk P w H s1.heap := by
    intro b u e
    rcases all b u e with ⟨q, rfl⟩ | ⟨_, rfl, _, rfl⟩
    · exact isT b q
    · exact ⟨ha, by rw [List.length_map]; exact hl, vs, _, rv, ha⟩
  have free : ∀ {b : Addr} {o : Obj}, s1.heap.get? b = some o → (∀ xs n, o.data ≠ .seq xs n) → o.data ≠ .fields #[] → H b = none := by
    intro b o e h1 h2
    cases q : H b with
    | none => rfl
    | some u =>
      rcases all b u q with ⟨z, _⟩ | ⟨_, z, _, _⟩
      · rw [isT b z] at e
        cases e
        exact absurd rfl h2
      · rw [z, ha] at e
        cases e
        exact absurd rfl (h1 _ _)
  have hid : ∀ {b : Addr} {o : Obj}, s1.heap.get? b = some o → H b = none → (hidT s1.heap H).get? b = some o := fun e n => hidT_get e n
  have nsK : ∀ {b : Addr} {m : Str → Option Value}, s1.heap.Ns b m → (hidT s1.heap H).Ns b m := by
    rintro b m ⟨o, es, ep, e, d, r⟩
    refine ⟨o, es, ep, hid e (free e ?_ ?_), d, r⟩
    · intro xs n z; rw [d] at z; cases z
    · intro z; rw [d] at z; cases z
  have inK : K.In (hidT s1.heap H) := by
    intro b o e
    refine hid (KX b o e) ?_
    cases q : H b with
    | none => rfl
    | some u =>
      rcases all b u q with ⟨z, _⟩ | ⟨_, z, hk, _⟩
      · obtain ⟨p, hp, ep⟩ := List.mem_map.mp z
        rw [← ep, nT p hp] at e
        cases e
      · rw [z, hk] at e
        cases e
  have md : L2.Mod K mg (hidT s1.heap H) := by
    obtain ⟨mc, h1, h2⟩ := hlim
    exact ⟨inK, nsK hns, ⟨mb, nsK hb, hbb⟩, mc, nsK h1, h2⟩
  have tabs : ∀ p ∈ cs, TabB (hidT s1.heap H) mg p.1 p.2 := by
    intro p hp
    have hTp := hT p hp
    constructor
    · obtain ⟨o, us, file, tf, flags, tg, inF, text, tt, e1, r1, r2, r3, r4, r5, r6, r7, r8, hne⟩ := C p hp
      refine ⟨o, us, file, tf, flags, tg, inF, text, tt, hid e1 (free e1 ?_ ?_), r1, r2, r3, r4, r5, r6, r7, r8, hne⟩
      · intro xs n z; rw [r2] at z; cases z
      · intro z; rw [r2] at z; cases z; simp at r3
    · obtain ⟨bm, ob, b1, b2, b3, b4, b5, b6⟩ := hbm
      have n1 : bm ≠ mainGlobals := by
        intro q
        obtain ⟨o, es, ep, e, hd, _⟩ := hns
        rw [q, e] at b3
        cases b3
        rw [hd] at b6
        cases b6
      have n2 : bm ≠ p.2 := by
        intro q
        rw [q, hTp] at b3
        cases b3
        cases b6
      refine ⟨bm, ob, b1, b2, n1, n2, hid b3 (free b3 ?_ ?_), b4, b5, b6⟩
      · intro xs n z; rw [b6] at z; cases z
      · intro z; rw [b6] at z; cases z
    · intro z
      obtain ⟨o, es, ep, e, hd, _⟩ := hns
      rw [z, hTp] at e
      cases e
      cases hd
  have e0 : Env0 P w K mg (hidT s1.heap H) callerA [] s1 H := by
    refine ⟨rfl, md, fun b o e => of_hidT e, Nat.le_of_eq (hidT_size _ _), trivial, fun b hb => ?_, hok, .of_eq hg⟩
    exact absurd (show b ∈ ([] : List Addr) from hb) (by simp)
  refine codeAny_mono ((F _ inK (nsK hns) tabs).run callerA [] s1 H ⟨[.ref a], []⟩ [.ref a] [.ref a] _ _ hr rfl e0 (hbind s1 (.ref a)) (.cons rfl .nil) (hsp H onT seqA)) fun r s' h => ?_
  rcases r with er | fl
  · exact (hCX H er s' h).elim
  cases fl
  case ret u =>
    obtain ⟨v, H', os, bare, un, ok', r', q⟩ := h
    obtain rfl : v = .bl true := q
    obtain rfl : u = Value.bool true := r'
    have kept : ∀ b o, b ∉ cs.map (·.2) → s1.heap.get? b = some o → s'.heap.get? b = some o := by
      intro b o nb e
      cases q : H b with
      | none => exact un.keep b o e q (fun z => absurd (show b ∈ ([] : List Addr) from z) (by simp)) (by simp)
      | some u =>
        rcases all b u q with ⟨z, _⟩ | ⟨_, _, _, rfl⟩
        · exact absurd z nb
        · obtain ⟨e1, _⟩ := hok b _ q
          obtain ⟨e2, _⟩ := ok' b _ (un.frzs b _ _ q)
          rw [e] at e1
          cases e1
          exact e2
    have more : ∀ p ∈ cs, ∃ m : Array Value, s'.heap.get? p.2 = some (tabO m) := by
      intro p hp
      obtain ⟨m, z⟩ := un.tbls p.2 #[] (onT p hp)
      exact ⟨_, ok' p.2 _ z⟩
    refine ⟨rfl, ⟨fun b o e => ?_, fun b o e => ?_⟩, os, bare⟩
    · by_cases nb : b ∈ cs.map (·.2)
      · obtain ⟨p, hp, rfl⟩ := List.mem_map.mp nb
        obtain ⟨m, hm⟩ := more p hp
        rw [hT p hp] at e
        cases e
        exact .inr (.inl ⟨((C p hp).tab (hT p hp)).isCodeTable, rfl, #[], m, rfl, by rw [Array.empty_append]; exact hm⟩)
      · exact .inl (kept b o nb e)
    · by_cases nb : b ∈ cs.map (·.2)
      · obtain ⟨p, hp, rfl⟩ := List.mem_map.mp nb
        obtain ⟨m, hm⟩ := more p hp
        exact ⟨_, hm⟩
      · exact ⟨o, kept b o nb e⟩
  all_goals exact False.elim h
/-- what the law's def is told at the top -/
def spTop (K : PySem.W.Frag) (cs : List (Addr × Addr)) : Sp := fun vs H Q _ => ∃ (a : Addr) (ns : List Int), vs = [.ref a] ∧ SqR K H a (ns.map V.int) ∧ (∀ p ∈ cs, H p.2 = some (.tbl #[])) ∧ ns.length ≤ 63 ∧ ∀ v H', v = .bl true → Q v H'
theorem ints_rvs {G : Wo} {F : Hp} : ∀ ns : List Int, Rvs G F (ns.map .int) (ns.map V.int)
  | [] => .nil
  | i :: ns => .cons (.int i) (ints_rvs ns)
theorem spTop_of {G : Wo} {cs : List (Addr × Addr)} {f : Fn} (hT : ∀ p ∈ G.T, p.1 ∈ cs.map (·.2)) (h : ∀ ns : List Int, ns.length ≤ 63 → f [.rol (ns.map .int)] = .ok (.bl true)) : ∀ vs H Q E, spTop G.K cs vs H Q E → spF G f 1 vs H Q E := by
  rintro vs H Q E ⟨a, ns, rfl, r, ht, hn, k⟩
  obtain ⟨F, le, nt, sq⟩ : ∃ F : Hp, Le F H ∧ (∀ (a : Addr) (ps : Array Value), F a ≠ some (.tbl ps)) ∧ SqL G.K F a (ns.map V.int) := by
    rcases r with ⟨o, e⟩ | r
    · refine ⟨upd (fun _ => none) a (.frz o (.lst (ns.map V.int))), fun b u z => ?_, fun b ps z => ?_, .inl (.inr ⟨o, upd_same⟩)⟩
      · by_cases q : b = a
        · subst q; rw [upd_same] at z; cases z; exact e
        · rw [upd_ne q] at z; cases z
      · by_cases q : b = a
        · subst q; rw [upd_same] at z; cases z
        · rw [upd_ne q] at z; cases z
    · exact ⟨fun _ => none, fun _ _ z => (by cases z), fun _ _ z => (by cases z), .inr r⟩
  refine ⟨[.rol (ns.map .int)], fun _ => none, F, rfl, ⟨le, fun _ _ z => (by cases z), fun _ _ z => (by cases z), fun p hp => ?_, fun _ _ z => (by cases z), nt⟩, .cons (.rol sq (ints_rvs ns)) .nil, ?_⟩
  · obtain ⟨c, hc, e⟩ := List.mem_map.mp (hT p hp)
    exact .nil (by rw [← e]; exact ht c hc)
  · rw [h ns hn]
    intro v F' H' l g rv
    cases rv
    exact k _ _ rfl
theorem walkT {l : PySem.W.OpenLaw} {k : Nat} {q : Program} {loose : List Str} {XP : (Str → Option Value) → Heap → Prop} {YP : World → Heap → Prop} {d : DefRec} {K : Params → PySem.W.Frag} (hn : l.most = some 63) (hdf : d.params.defaults = []) (hr : Room k callerA)
    (hY : ∀ (w : World) (h : Heap), YP w h → (K w.params).In h)
    (F : ∀ (w : World) (mg : Str → Option Value) (fa : Addr) (h : Heap), YP w h → (K w.params).In h → h.Ns mainGlobals mg → mg d.name = some (.ref fa) → ∃ (fd : FuncData) (cs : List (Addr × Addr)),
      ((∀ p ∈ cs, h.get? p.2 = some (tabO #[])) ∧ (∀ p ∈ cs, (K w.params).lookup p.2 = none) ∧ ∀ p ∈ cs, PySem.W.CodeHd h p.1 p.2) ∧ (∀ (s : Shared) (u : Value), BindsTo s fd ⟨[u], []⟩ [("script", u)]) ∧
      ∀ base : Heap, (K w.params).In base → base.Ns mainGlobals mg → (∀ p ∈ cs, TabB base mg p.1 p.2) → FnG l.prog w (K w.params) mg base (L2.CX l.prog w) k fa fd ["script"] (spTop (K w.params) cs)) :
    PySem.W.WalkO q loose XP YP l.row.toRowW d [] (fun f vs => PySem.call f vs) := by
  refine Att.attach_callB hn hdf fun w s0 s1 mg mb fa o pm cd doc a vs ns G Y ho hd hcd hmg hobj hints hlen hbits hg => ?_
  have KX := hY w _ Y
  obtain ⟨fd, cs, ⟨hT, nT, C⟩, hb, hF⟩ := F w mg fa _ Y KX G.T.g hmg
  refine law_top KX G.T.g G.T.b G.T.builtins G.T.nolimit hg hT nT C G.T.bmain hobj hints (Nat.le_trans hlen (by decide)) hr hF hb (fun H hH hS => ⟨a, ns, rfl, hS, hH, hlen, fun v _ e => e⟩) fun H e s' h => ?_
  obtain ⟨_, _, _, _, _, _, _, _, _, _, _, _, z⟩ := h
  exact z.elim
end Pv
namespace Pv
open PySem PySem.Spec PyProof.Rows L2
/-- f' says no more than f does -/
def Lf (f f' : Fn) : Prop := ∀ ws, f' ws ≠ .bad → f ws = f' ws
theorem Lf.refl (f : Fn) : Lf f f := fun _ _ => rfl
theorem Lf.le {f f' : Fn} (l : Lf f f') {G : Wo} {lv n : Nat} {x : Str} (d : DefOk G lv x n f) : DefOk G lv x n f' := d.cong l
def Lb (f f' : Fb) : Prop := ∀ c ws, f' c ws ≠ .bad → f c ws = f' c ws
theorem Lb.refl (f : Fb) : Lb f f := fun _ _ _ => rfl
theorem Lb.le {f f' : Fb} (l : Lb f f') {G : Wo} {lv n : Nat} {x : Str} (d : DefB G lv x n f) : DefB G lv x n f' := d.cong l
/-! ### an item of a list that a name holds alone -/
def fIxN (i : Nat) (fk : FE) : FE := fun env => match alW env i with
  | some _ => (fk env).bind fun k e1 => (match alW e1 i with
    | some (.lst ws) => ofO (ixW (.lst ws) k) e1
    | _ => .bad)
  | none => fBin subW (fVar i) fk env
section
variable {S : Ctx} {pos p2 : Pos} {k : Expr} {fk : FE}
theorem re_ixN {i : Nat} {x : Str} (hN : S.N[i]? = some x) (hv : Vis S.sc x) (hb : RE S k fk) (hp : PlainIx k := by intro _ _; rfl) (hn : NoSl k := by intro _ _; rfl) (hd : (x == ("__debug__" : Str)) = false := by decide) (hcd : (x == ("__classdict__" : Str)) = false := by decide) :
    RE S (.Subscript (.Name x p2) k pos) (fIxN i fk) := by
  intro W B env F σ H Q at_ q
  unfold fIxN at q
  split at q
  case h_2 => exact re_ix (re_var hN hv hd hcd) hb hp hn W B env F σ H Q at_ q
  rename_i c0 e0
  obtain ⟨p0, u0, s0, _⟩ := at_.alone e0
  refine ⟨tOp (UX S W) (tVar i) (UE S W k), fun X ok => pe_ix (ux_ix ok) (pe_var (by rw [ok.N]; exact hN) (by rw [ok.sc]; exact hv) hd hcd) (ue_pe ok) hp, .ref p0, s0, ?_⟩
  refine hb W B env F σ H _ at_ (Po.bnd q fun y e1 vy F1 H1 _ l1 a1 r1 q1 => ?_)
  split at q1
  · rename_i ws e1w
    obtain ⟨z, ez, n⟩ := q1.ofO
    obtain ⟨p1, u1, s1, k0, k1, k2⟩ := a1.alone e1w
    rw [s0] at s1
    cases s1
    cases k2 with
    | lst rx lx =>
      unfold ixW at ez
      split at ez
      · cases r1
        obtain ⟨v, f1, f2⟩ := atI_rv rx ez
        exact ⟨rIxL S.g.K, fun X ok => by have z := @ix_list X; rw [ok.K] at z; exact z, _, _, _, _, rfl, rfl, .of k1, f1, nx_here n a1 f2⟩
      · cases ez
  · exact q1.elim
end
/-- where a def of the text stands -/
theorem at_of {K : PySem.W.Frag} {h : Heap} {mg : Str → Option Value} (X : K.In h) (G : h.Ns mainGlobals mg) {st : Stmt} {x : Str} {ps : List Str} {f : Addr} {oc : Value} {od an : Option Addr} {sl : Array (Option Value)} {kV doc pm cd ct : Value}
    (a : PySem.W.nsIn K mainGlobals x = some (some (.ref f))) (l : K.lookup f = some ⟨oc, od, .func (PySem.W.fnOf x x (defArgs st) (defBody st) (defScope st) .none kV doc pm an cd ct), sl⟩) (c : PySem.W.codeIn K cd x = true) (k : PySem.W.keepIn K (.ref f) = true)
    (b : ∀ (kV doc pm : Value) (an : Option Addr) (cdv ct : Value) (us : List Value), us.length = ps.length → bindArgs (PySem.W.fnOf x x (defArgs st) (defBody st) (defScope st) .none kV doc pm an cdv ct) ⟨us, []⟩ = pure (ps.zip us)) :
    ∀ (P : Program) (w : World) (base : Heap) (T : List (Addr × Str)), DefAt ⟨P, w, K, mg, base, T⟩ st x ps := fun P w base T =>
  have F := fun_mk (st := st) l c k
  ⟨f, _, F, PySem.W.mg_of X G a, F.binds b⟩
end Pv
/-! a law's body, step by step -/
namespace Pv
open PySem L2
/-- it says true, and what was lent is there -/
def Rt (r : SR) : Prop := ∃ e c, r = .ret (.bl true) e ∧ lentOf e = some c
theorem Rt.seq {q u : FS} {e e1 : En} (h : q e = .nx e1) (k : Rt (u e1)) : Rt (sSeq q u e) := by
  unfold sSeq
  rw [h]
  exact k
theorem Rt.fin {q u : FS} {e : En} {c : W} {r : En} (h : q e = .ret (.bl true) (some (.b c) :: r)) : Rt (sSeq q u e) := by
  unfold sSeq
  rw [h]
  exact ⟨_, c, rfl, rfl⟩
theorem Rt.end {q : FS} {e : En} {c : W} {r : En} (h : q e = .ret (.bl true) (some (.b c) :: r)) : Rt (q e) := ⟨_, c, h, rfl⟩
theorem callB_step {m : Fb} {L : FE} {i : Nat} {c c' w p : W} {e r : En} (eL : L (some (.b c) :: e) = .ok p (some (.b c) :: r)) (h : m c [p] = .ok w c') : sSet (gN i) (fCallB 1 0 m (faCons L faNil)) (some (.b c) :: e) = .nx ((some (.b c') :: r).set i (some (.v w))) := by
  simp only [sSet, fCallB, alW, List.getElem?_cons_zero, Ev.alone, faCons, faNil, eL, Rs.bind, List.length_cons, List.length_nil, Nat.zero_add, if_true, h, Rb.rs, Rs.thn, putW, Ev.put, List.set_cons_zero, gN, ofG]
/-- it says true -/
def Rl (r : SR) : Prop := ∃ e, r = .ret (.bl true) e
theorem Rl.seq {q u : FS} {e e1 : En} (h : q e = .nx e1) (k : Rl (u e1)) : Rl (sSeq q u e) := by
  unfold sSeq
  rw [h]
  exact k
theorem Rl.end {q : FS} {e r : En} (h : q e = .ret (.bl true) r) : Rl (q e) := ⟨_, h⟩
theorem Rl.run {n : Nat} {f : FS} {ws : List W} (h : Rl (f (startE n ws))) : fnOf n f ws = .ok (.bl true) := by
  obtain ⟨e, h⟩ := h
  unfold fnOf
  rw [h]
  rfl
theorem Rt.run {n : Nat} {f : FS} {c : W} (h : Rt (f (startB n c []))) : ∃ c', fnB n f c [] = .ok (.bl true) c' := by
  obtain ⟨e, c', h, l⟩ := h
  refine ⟨c', ?_⟩
  unfold fnB
  rw [h]
  show (match lentOf e with
    | some c => Rb.ok (.bl true) c
    | none => .bad) = _
  rw [l]
/-- the law's loop: its body leaves all but the loop's own slot as it was -/
theorem loop_cnt {f : FS} {s : Option Ev} {r : En} (h : ∀ (i : Nat), i ≤ 100 → f (s :: some (.v (.int (i : Int))) :: r) = .nx (s :: some (.v (.int (i : Int))) :: r)) :
    ∀ (k lo : Nat) (x : Option Ev), lo + k ≤ 100 → ∃ x', loopF (gN 1) f (cnt 1 k (lo : Int)) (s :: x :: r) = .nx (s :: x' :: r)
  | 0, lo, x, _ => ⟨x, rfl⟩
  | k + 1, lo, x, hk => by
    obtain ⟨x', e⟩ := loop_cnt h k (lo + 1) (some (.v (.int (lo : Int)))) (by omega)
    refine ⟨x', ?_⟩
    unfold cnt loopF
    show (match f (s :: some (.v (.int (lo : Int))) :: r) with
      | .nx e => loopF (gN 1) f (cnt 1 k ((lo : Int) + 1)) e
      | .cnt e => loopF (gN 1) f (cnt 1 k ((lo : Int) + 1)) e
      | .brk e => .nx e
      | r => r) = _
    rw [h lo (by omega)]
    exact e
end Pv
/-! dicts and lists that a name holds alone, looked at -/
namespace Pv
open PySem PySem.Spec PyProof.Rows L2

/-- as DGet; an empty dict has no tuple -/
def DGetZ (H : Hp) (a : Addr) (y : V) (r : Option V) : Prop := DGet H a y r ∨ (H a = some (.dK []) ∧ r = none ∧ ∃ (b : Addr) (k : List Key), y = .ref b ∧ b ≠ a ∧ H b = some (.tup (k.map kV)))
section
variable {X : Cx} {pins : List (Addr × Obj)} {σ : L2.St} {H : Hp} {s : Shared} {a : Addr} {y d : V} {u r : Value} {o : Option V} {A : Around} {E : Value → Shared → Prop}
theorem t2k {q : Addr} (I : Inv X pins σ H s) (h : H q = some (.dT [])) : Inv X pins σ (upd H q (.dK [])) s := by
  have x : ObjOk X.prog X.w H s.heap q (.dT []) := I.hok q _ h
  obtain ⟨z, hs, xs, kt, ob, es, ep, e1, e2, e3, e4, e5⟩ := x
  cases kt
  have ze : es.toList = [] := by simpa using e4.symm
  have new : ObjOk X.prog X.w (upd H q (.dK [])) s.heap q (.dK []) := ⟨z, hs, [], .nil, ob, es, ep, e1, e2, e3, by have : es = #[] := (by cases es; cases ze; rfl); subst this; intro x hx; simp at hx, by rw [ze]; exact .nil, by simp⟩
  exact I.write (x := q) (e := q) (t' := s.toks) (h' := s.heap) (by rw [h]; exact True.intro) (.inl rfl) (fun b v _ q => q) ⟨_, e1⟩ new
theorem zback {q : Addr} {s' : Shared} (h : H q = some (.dK [])) (I : Inv X pins σ (upd H q (.dT [])) s') : Inv X pins σ H s' := by
  have z := t2k I upd_same
  have e : upd (upd H q (.dT [])) q (.dK []) = H := by
    funext b
    by_cases hb : b = q
    · subst hb; rw [upd_same, h]
    · rw [upd_ne hb, upd_ne hb]
  rw [e] at z
  exact z
theorem gz {b : Addr} {k : List Key} (h : H a = some (.dK [])) (nb : b ≠ a) (eb : H b = some (.tup (k.map kV))) : DGet (upd H a (.dT [])) a (.ref b) none := .inr ⟨[], k, b, .inl upd_same, rfl, by rw [upd_ne nb]; exact eb, rfl⟩
theorem dz_get2 {Q : Value → Shared → Prop} (hu : A.units + 1 < cLine) (I : Inv X pins σ H s) (g : DGetZ H a y o) (ry : RelV y u) (rd : RelV d r) (h : ∀ w' s', Inv X pins σ H s' → RelV (o.getD d) w' → Q w' s') :
    wpAny (model X.prog X.w) A (call (.builtin "dict.get") [.ref a, u, r]) Q E s := by
  rcases g with g | ⟨ha, rfl, b, k, rfl, nb, eb⟩
  · exact d_get2 hu I g ry rd h
  · exact d_get2 hu (k2t I ha) (gz ha nb eb) ry rd fun w' s' I' r' => h w' s' (zback ha I') r'
theorem dz_in {Q : Value → Shared → Prop} (hu : A.units + 1 < cLine) (I : Inv X pins σ H s) (g : DGetZ H a y o) (ry : RelV y u) (h : ∀ s', Inv X pins σ H s' → Q (.bool o.isSome) s') :
    wpAny (model X.prog X.w) A (compareOp .In u (.ref a)) Q E s := by
  rcases g with g | ⟨ha, rfl, b, k, rfl, nb, eb⟩
  · exact d_in hu I g ry h
  · exact d_in hu (k2t I ha) (gz ha nb eb) ry fun s' I' => h s' (zback ha I')
theorem dz_notIn {Q : Value → Shared → Prop} (hu : A.units + 1 < cLine) (I : Inv X pins σ H s) (g : DGetZ H a y o) (ry : RelV y u) (h : ∀ s', Inv X pins σ H s' → Q (.bool (!o.isSome)) s') :
    wpAny (model X.prog X.w) A (compareOp .NotIn u (.ref a)) Q E s := by
  rcases g with g | ⟨ha, rfl, b, k, rfl, nb, eb⟩
  · exact d_notIn hu I g ry h
  · exact d_notIn hu (k2t I ha) (gz ha nb eb) ry fun s' I' => h s' (zback ha I')
end
def tDInZ (ty td : TE) : TE := fun σ H Q => ty σ H fun y H1 => td σ H1 fun x H2 => ∃ a o, x = .ref a ∧ DGetZ H2 a y o ∧ Q (.bl o.isSome) H2
def tDNotInZ (ty td : TE) : TE := fun σ H Q => ty σ H fun y H1 => td σ H1 fun x H2 => ∃ a o, x = .ref a ∧ DGetZ H2 a y o ∧ Q (.bl (!o.isSome)) H2
def tDGet2Z (td ty tx : TE) : TE := fun σ H Q => td σ H fun x H1 => ∃ a, x = .ref a ∧ IsD H1 a ∧ ty σ H1 fun y H2 => tx σ H2 fun z H3 => ∃ o, DGetZ H3 a y o ∧ Q (o.getD z) H3
section
variable {X : Cx} {o i e f : Expr} {apos cpos pos : Pos} {td ty tx : TE}
theorem pc_dinZ (hu : X.A.units + 1 < cLine) (hi : PE X i ty) (ho : PE X o td) : PC X .In i o (tDInZ ty td) := by
  refine ⟨fun pins s σ H Q I h => ?_⟩
  refine thn (hi.run pins s σ H _ I h) fun iv s1 ⟨y, H1, I1, ry, q1⟩ => thn (ho.run pins s1 σ H1 _ I1 q1) fun u s2 ⟨x, H2, I2, rx, a, ov, ex, g, q2⟩ => ?_
  subst ex
  obtain rfl : u = Value.ref a := rx
  exact dz_in hu I2 g ry fun s3 I3 => ⟨.bl ov.isSome, H2, I3, rfl, q2⟩
theorem pc_dnotinZ (hu : X.A.units + 1 < cLine) (hi : PE X i ty) (ho : PE X o td) : PC X .NotIn i o (tDNotInZ ty td) := by
  refine ⟨fun pins s σ H Q I h => ?_⟩
  refine thn (hi.run pins s σ H _ I h) fun iv s1 ⟨y, H1, I1, ry, q1⟩ => thn (ho.run pins s1 σ H1 _ I1 q1) fun u s2 ⟨x, H2, I2, rx, a, ov, ex, g, q2⟩ => ?_
  subst ex
  obtain rfl : u = Value.ref a := rx
  exact dz_notIn hu I2 g ry fun s3 I3 => ⟨.bl (!ov.isSome), H2, I3, rfl, q2⟩
theorem pe_dget2Z (hu : X.A.units + 1 < cLine) (ho : PE X o td) (he : PE X e ty) (hf : PE X f tx) (m : M2 X o "get" apos e f cpos) : PE X (.Call (.Attribute o "get" apos) [e, f] [] cpos) (tDGet2Z td ty tx) := by
  refine ⟨fun pins s σ H Q I h => ?_⟩
  refine wpAny_Call_method m.base m.few m.line PySem.F.plainAttrs_dict PySem.F.slot_dict_get PySem.F.type_dict_get (thn (ho.run pins s σ H _ I h) fun u s1 ⟨x, H1, I1, rx, a, ex, d, q1⟩ => ?_)
  subst ex
  obtain rfl : u = Value.ref a := rx
  obtain ⟨t1, t2, _⟩ := isD_at I1 d
  refine ⟨t1, t2, ?_⟩
  rw [m.trees]
  refine Calls.callWith_builtin rfl (Calls.evalArgs_plain (Calls.spliced_cons (thn (he.run pins s1 σ H1 _ I1 q1) fun iv s2 ⟨y, H2, I2, ry, q2⟩ =>
    Calls.spliced_cons (thn (hf.run pins s2 σ H2 _ I2 q2) fun fv s3 ⟨z, H3, I3, rz, ov, g, q3⟩ => Calls.spliced_nil ?_))))
  exact dz_get2 hu I3 g ry rz fun w' s4 I4 rw' => ⟨_, H3, I4, rw', q3⟩
theorem pc_op {op : CmpOp} {r : R2} {a b : Expr} {ta tb : TE} (ho : OpR X (compareOp op) r) (ha : PE X a ta) (hb : PE X b tb) : PC X op a b (tOp r ta tb) :=
  ⟨fun pins s σ H Q I h => thn (ha.run pins s σ H _ I h) fun v s1 ⟨x, H1, I1, r1, q1⟩ => thn (hb.run pins s1 σ H1 _ I1 q1) fun u s2 ⟨y, H2, I2, r2, q2⟩ => ho pins s2 σ H2 x y v u Q I2 r1 r2 q2⟩
end
/-- d.get at a key: whether it is there, and what -/
def getZ (kvs : List (W × W)) (x : W) : Option (Option W) := match kvs with
  | [] => (kindK x).map fun _ => none
  | _ => getW kvs x
section
variable {S : Ctx} {pos p2 apos : Pos}
theorem getZ_rd {F H : Hp} (l : Le F H) {kvs : List (W × W)} {a : Addr} {u : HO} {x : W} {vx : V} {r : Option W} (ha : H a = some u ∨ ∃ o, H a = some (.frz o u)) (he : kvs = [] → H a = some u) (rc : Rc S.g F (.dic kvs) u) (rx : Rv S.g F x vx) (h : getZ kvs x = some r) :
    ∃ o, DGetZ H a vx o ∧ Fnd S.g F r o := by
  cases kvs with
  | nil =>
    unfold getZ at h
    rw [Option.map_eq_some_iff] at h
    obtain ⟨b, eb, rfl⟩ := h
    cases rc with
    | dT ne _ _ => exact absurd rfl ne
    | dK e rs =>
      rename_i hk
      have hk0 : hk = [] := by cases hk with | nil => rfl | cons _ _ => cases e
      subst hk0
      have ha' := he rfl
      have fin : ∀ k : Key, vx = kV k → ∃ o, DGetZ H a vx o ∧ Fnd S.g F none o := fun k ev => by
        subst ev
        exact ⟨none, .inl (.inl ⟨_, k, .inl ha', rfl, rfl⟩), rfl⟩
      cases rx <;> simp [kindK] at eb
      · rename_i i; exact fin (.inl i) rfl
      · rename_i i; exact fin (.inr i) rfl
      · rename_i ws b2 vs h1 h2
        split at eb
        · rename_i ks ek
          have ew := keysOf_ok ek
          subst ew
          have ev := rv_tup h2
          subst ev
          refine ⟨none, .inr ⟨ha', rfl, b2, ks, rfl, fun z => ?_, l _ _ h1⟩, rfl⟩
          subst z
          have q := l _ _ h1
          rw [ha'] at q
          cases q
        · simp at eb
  | cons p r' =>
    have h : getW (p :: r') x = some r := h
    unfold getW at h
    split at h
    · rename_i b eb
      split at h
      · rename_i hb
        cases h
        cases rc with
        | dK e rs =>
          have kd := kind_dK e
          rw [kd] at hb
          subst hb
          have fin : ∀ k : Key, x = kW k → vx = kV k → ∃ o, DGetZ H a vx o ∧ Fnd S.g F (lkW x (p :: r')) o := fun k ex ev => by
            subst ex ev
            exact ⟨_, .inl (.inl ⟨_, k, by cases ha with | inl h => exact .inl h | inr h => exact .inr h, rfl, rfl⟩), lk_k (k := k) e rs⟩
          cases rx <;> simp [kindK] at eb
          · rename_i i; exact fin (.inl i) rfl rfl
          · rename_i i; exact fin (.inr i) rfl rfl
          · split at eb <;> simp at eb
        | dT ne e rs =>
          have kd := kind_dT e ne
          rw [kd] at hb
          subst hb
          cases rx <;> simp [kindK] at eb
          rename_i ws b2 vs h1 h2
          split at eb
          · rename_i ks ek
            have ew := keysOf_ok ek
            subst ew
            have ev := rv_tup h2
            subst ev
            exact ⟨_, .inl (.inr ⟨_, ks, b2, by cases ha with | inl h => exact .inl h | inr h => exact .inr h, rfl, l _ _ h1, rfl⟩), lk_t (k := ks) e rs⟩
          · simp at eb
      · cases h
    · cases h
/-! ### in -/
/-- a comparison, its parts read one behind the other -/
def RC (S : Ctx) (op : CmpOp) (a b : Expr) (f : FE) : Prop := ∀ (W : WX) B env F σ H (Q : VK), At S B env F σ H → Po S B σ F (Rv S.g) (fun c d H' => W c d σ H') Q (f env) → ∃ t, (∀ X, S.Ok W X → PC X op a b t) ∧ t σ H Q
theorem re_rc {op : CmpOp} {a b : Expr} {f : FE} (h : RC S op a b f) (hm : behindInMarks op b = false := by first | exact nobehind _ (by decide) (by decide) | rfl) : RE S (.Compare a [op] [b] pos) f := by
  intro W B env F σ H Q at_ q
  obtain ⟨t, h1, h2⟩ := h W B env F σ H Q at_ q
  exact ⟨t, fun X ok => pe_cmp (h1 X ok) hm, h2⟩
theorem rt_rc {op : CmpOp} {a b : Expr} {f : FE} (h : RC S op a b f) (hm : behindInMarks op b = false := by first | exact nobehind _ (by decide) (by decide) | rfl) : RT S (.Compare a [op] [b] pos) (fTestB f) := by
  intro W B env F σ H Q at_ q
  obtain ⟨t, h1, h2⟩ := h W B env F σ H (fun x H1 => ∃ c, x = .bl c ∧ Q c H1) at_ (Po.bnd (R := Rv S.g) q fun x e1 v F1 H1 _ l1 a1 r1 q1 => by
    obtain ⟨k, ek, n⟩ := q1.ofB
    cases r1 <;> simp [blW] at ek
    subst ek
    exact ⟨_, rfl, n _ a1⟩)
  exact ⟨tB t, fun X ok => pt_cmp (h1 X ok) hm, h2⟩
/-- k in x, k not in x -/
def inW (ng : Bool) (k y : W) : Option W := match y with
  | .dic kvs => (match kvs with
    | [] => none
    | _ => (getW kvs k).map fun r => .bl (ng != r.isSome))
  | _ => (fInB k y).map fun b => .bl (ng != b)
def opIn (ng : Bool) : CmpOp := match ng with
  | true => .NotIn
  | false => .In
def fInD (ng : Bool) (fk fo : FE) : FE := fun env => (fk env).bind fun k e1 => (fo e1).bind fun y e2 => ofO (inW ng k y) e2
theorem fnd_is {F : Hp} {r : Option W} {o : Option V} (h : Fnd S.g F r o) : o.isSome = r.isSome := by
  cases r with
  | none => have h : o = none := h; subst h; rfl
  | some w => obtain ⟨v, rfl, _⟩ := h; rfl
theorem rv_dic {F : Hp} {kvs : List (W × W)} {v : V} (r : Rv S.g F (.dic kvs) v) : ∃ a o u, v = .ref a ∧ F a = some (.frz o u) ∧ Rc S.g F (.dic kvs) u := by
  cases r with
  | dK h e rs => exact ⟨_, _, _, rfl, h, .dK e rs⟩
  | dT ne h e rs => exact ⟨_, _, _, rfl, h, .dT ne e rs⟩
theorem rc_in {a b : Expr} {fk fo : FE} (ng : Bool) (hk : RE S a fk) (ho : RE S b fo) : RC S (opIn ng) a b (fInD ng fk fo) := by
  intro W B env F σ H Q at_ q
  by_cases hd : ∃ k e1 kvs e2, fk env = .ok k e1 ∧ fo e1 = .ok (.dic kvs) e2
  · obtain ⟨k0, e10, kvs, e20, ek, ey⟩ := hd
    have main : ∀ {P : V → V → Hp → Prop}, (∀ vk a o H', DGetZ H' a vk o → Q (.bl (ng != o.isSome)) H' → P vk (.ref a) H') → UE S W a σ H fun vk H1 => UE S W b σ H1 fun x H2 => P vk x H2 := fun {P} hP => by
      refine hk W B env F σ H _ at_ (Po.bnd q fun k e1 vk F1 H1 ex l1 a1 r1 q1 => ?_)
      rw [ek] at ex
      cases ex
      refine ho W B e10 F1 σ H1 _ a1 (Po.bnd q1 fun y e2 vy F2 H2 ex2 l2 a2 r2 q2 => ?_)
      rw [ey] at ex2
      cases ex2
      obtain ⟨z, ez, n⟩ := q2.ofO
      obtain ⟨p, o, u, rfl, hf, rc⟩ := rv_dic r2
      cases kvs with
      | nil => cases ez
      | cons p0 rr =>
        unfold inW at ez
        dsimp only at ez
        rw [Option.map_eq_some_iff] at ez
        obtain ⟨r, er, rfl⟩ := ez
        obtain ⟨ov, g, fd⟩ := getZ_rd a2.le (kvs := p0 :: rr) (.inr ⟨_, a2.le _ _ hf⟩) (fun z => by cases z) rc (r1.le l2) (show getZ (p0 :: rr) k0 = some r from er)
        refine hP vk p ov H2 g ?_
        rw [fnd_is fd]
        exact nx_here n a2 (.bl _)
    cases ng with
    | false =>
      refine ⟨tDInZ (UE S W a) (UE S W b), fun X ok => pc_dinZ (by have := ok.room.un; omega) (ue_pe ok) (ue_pe ok), main fun vk p o H' g h => ⟨p, o, rfl, g, ?_⟩⟩
      have e : (false != o.isSome) = o.isSome := by cases o.isSome <;> rfl
      rw [e] at h
      exact h
    | true =>
      refine ⟨tDNotInZ (UE S W a) (UE S W b), fun X ok => pc_dnotinZ (by have := ok.room.un; omega) (ue_pe ok) (ue_pe ok), main fun vk p o H' g h => ⟨p, o, rfl, g, ?_⟩⟩
      have e : (true != o.isSome) = !o.isSome := by cases o.isSome <;> rfl
      rw [e] at h
      exact h
  · refine ⟨tOp (UR S W (compareOp (opIn ng))) (UE S W a) (UE S W b), fun X ok => pc_op (ur_op ok) (ue_pe ok) (ue_pe ok), ?_⟩
    refine hk W B env F σ H _ at_ (Po.bnd q fun k e1 vk F1 H1 ek l1 a1 r1 q1 => ?_)
    refine ho W B e1 F1 σ H1 _ a1 (Po.bnd q1 fun y e2 vy F2 H2 ey l2 a2 r2 q2 => ?_)
    obtain ⟨z, ez, n⟩ := q2.ofO
    have nd : ∀ kvs, y ≠ .dic kvs := fun kvs z => hd ⟨_, _, kvs, _, ek, by rw [ey, z]⟩
    have ez' : (fInB k y).map (fun b => Pv.W.bl (ng != b)) = some z := by
      unfold inW at ez
      split at ez
      · exact absurd rfl (nd _)
      · exact ez
    cases ng with
    | false =>
      refine o_in W B e2 F2 σ H2 k y z vk vy Q a2 (r1.le l2) r2 ?_ n
      unfold fIn
      rw [← ez']
      congr 1
      funext b
      cases b <;> rfl
    | true =>
      refine o_notIn W B e2 F2 σ H2 k y z vk vy Q a2 (r1.le l2) r2 ?_ n
      unfold fNotIn
      rw [← ez']
      congr 1
      funext b
      cases b <;> rfl
/-- .. a dict that the name holds alone -/
def fInN (ng : Bool) (fk : FE) (i : Nat) : FE := fun env => match alW env i with
  | some _ => (fk env).bind fun k e1 => (match alW e1 i with
    | some (.dic kvs) => (match getZ kvs k with
      | some r => .ok (.bl (ng != r.isSome)) e1
      | none => .bad)
    | _ => .bad)
  | none => fInD ng fk (fVar i) env
theorem rc_inN {a : Expr} {fk : FE} {i : Nat} {x : Str} (ng : Bool) (hk : RE S a fk) (hN : S.N[i]? = some x) (hv : Vis S.sc x) (hd : (x == ("__debug__" : Str)) = false := by decide) (hcd : (x == ("__classdict__" : Str)) = false := by decide) : RC S (opIn ng) a (.Name x p2) (fInN ng fk i) := by
  intro W B env F σ H Q at_ q
  unfold fInN at q
  split at q
  case h_2 => exact rc_in ng hk (re_var hN hv hd hcd) W B env F σ H Q at_ q
  rename_i c0 e0
  obtain ⟨p0, u0, s0, _⟩ := at_.alone e0
  have vr : ∀ X, S.Ok W X → PE X (.Name x p2) (tVar i) := fun X ok => pe_var (by rw [ok.N]; exact hN) (by rw [ok.sc]; exact hv) hd hcd
  have main : ∀ {P : V → V → Hp → Prop}, (∀ vk a o H', DGetZ H' a vk o → Q (.bl (ng != o.isSome)) H' → P vk (.ref a) H') → UE S W a σ H fun vk H1 => tVar i σ H1 fun x H2 => P vk x H2 := fun {P} hP => by
    refine hk W B env F σ H _ at_ (Po.bnd q fun k e1 vk F1 H1 ex l1 a1 r1 q1 => ⟨.ref p0, s0, ?_⟩)
    split at q1
    · rename_i kvs ea
      obtain ⟨p1, u1, s1, k0, k1, k2⟩ := a1.alone ea
      rw [s0] at s1
      cases s1
      split at q1
      · rename_i r er
        obtain ⟨ov, g, fd⟩ := getZ_rd a1.le (.inl k1) (fun _ => k1) k2 r1 er
        refine hP vk p0 ov H1 g ?_
        rw [fnd_is fd]
        exact q1 _ F1 H1 (.refl _) a1 (.bl _)
      · exact q1.elim
    · exact q1.elim
  cases ng with
  | false =>
    refine ⟨tDInZ (UE S W a) (tVar i), fun X ok => pc_dinZ (by have := ok.room.un; omega) (ue_pe ok) (vr X ok), main fun vk p o H' g h => ⟨p, o, rfl, g, ?_⟩⟩
    have e : (false != o.isSome) = o.isSome := by cases o.isSome <;> rfl
    rw [e] at h
    exact h
  | true =>
    refine ⟨tDNotInZ (UE S W a) (tVar i), fun X ok => pc_dnotinZ (by have := ok.room.un; omega) (ue_pe ok) (vr X ok), main fun vk p o H' g h => ⟨p, o, rfl, g, ?_⟩⟩
    have e : (true != o.isSome) = !o.isSome := by cases o.isSome <;> rfl
    rw [e] at h
    exact h
/-! ### d.get(k, x) -/
def fGet2 (fo fk fx : FE) : FE := fun env => (fo env).bind fun y e1 => match y with
  | .dic kvs => (fk e1).bind fun k e2 => (fx e2).bind fun x e3 => (match kvs with
    | [] => .bad
    | _ => (match getW kvs k with
      | some r => .ok (r.getD x) e3
      | none => .bad))
  | _ => .bad
def fGet2N (i : Nat) (fk fx : FE) : FE := fun env => match alW env i with
  | some (.dic _) => (fk env).bind fun k e2 => (fx e2).bind fun x e3 => (match alW e3 i with
    | some (.dic kvs) => (match getZ kvs k with
      | some r => .ok (r.getD x) e3
      | none => .bad)
    | _ => .bad)
  | some _ => .bad
  | none => fGet2 (fVar i) fk fx env
theorem fnd_get {F : Hp} {r : Option W} {o : Option V} {x : W} {vx : V} (h : Fnd S.g F r o) (rx : Rv S.g F x vx) : Rv S.g F (r.getD x) (o.getD vx) := by
  cases r with
  | none => rw [show o = none from h]; exact rx
  | some w => obtain ⟨v, rfl, rv⟩ := h; exact rv
theorem re_get2 {o k x : Expr} {fo fk fx : FE} (ho : RE S o fo) (hk : RE S k fk) (hx : RE S x fx) (m : ∀ X : Cx, M2 X o "get" apos k x pos := by intro X; exact ⟨rfl, rfl, rfl, rfl⟩) : RE S (.Call (.Attribute o "get" apos) [k, x] [] pos) (fGet2 fo fk fx) := by
  intro W B env F σ H Q at_ q
  refine ⟨tDGet2Z (UE S W o) (UE S W k) (UE S W x), fun X ok => pe_dget2Z (by have := ok.room.un; omega) (ue_pe ok) (ue_pe ok) (ue_pe ok) (m X), ho W B env F σ H _ at_ (Po.bnd q fun y e1 vy F1 H1 _ l1 a1 r1 q1 => ?_)⟩
  split at q1
  case h_2 => exact q1.elim
  rename_i kvs _ey
  obtain ⟨p, ob, u, rfl, hf, rc⟩ := rv_dic r1
  refine ⟨p, rfl, ?_, ?_⟩
  · cases rc with
    | dK _ _ => exact .inl ⟨_, .inr ⟨_, a1.le _ _ hf⟩⟩
    | dT _ _ _ => exact .inr ⟨_, .inr ⟨_, a1.le _ _ hf⟩⟩
  · refine hk W B e1 F1 σ H1 _ a1 (Po.bnd q1 fun kk e2 vk F2 H2 _ l2 a2 r2 q2 => ?_)
    refine hx W B e2 F2 σ H2 _ a2 (Po.bnd q2 fun xx e3 vx F3 H3 _ l3 a3 r3 q3 => ?_)
    cases kvs with
    | nil => exact q3.elim
    | cons p0 rr =>
      dsimp only at q3
      split at q3
      · rename_i r er
        obtain ⟨ov, g, fd⟩ := getZ_rd a3.le (kvs := p0 :: rr) (.inr ⟨_, a3.le _ _ ((l2.trans l3) _ _ hf)⟩) (fun z => by cases z) (rc.le (l2.trans l3)) (r2.le l3) (show getZ (p0 :: rr) kk = some r from er)
        exact ⟨ov, g, q3 _ F3 H3 (.refl _) a3 (fnd_get fd r3)⟩
      · exact q3.elim
theorem re_get2N {i : Nat} {y : Str} {k x : Expr} {fk fx : FE} (hN : S.N[i]? = some y) (hv : Vis S.sc y) (hk : RE S k fk) (hx : RE S x fx) (m : ∀ X : Cx, M2 X (.Name y p2) "get" apos k x pos := by intro X; exact ⟨rfl, rfl, rfl, rfl⟩) (hd : (y == ("__debug__" : Str)) = false := by decide) (hcd : (y == ("__classdict__" : Str)) = false := by decide) :
    RE S (.Call (.Attribute (.Name y p2) "get" apos) [k, x] [] pos) (fGet2N i fk fx) := by
  intro W B env F σ H Q at_ q
  unfold fGet2N at q
  split at q
  case h_3 => exact re_get2 (re_var hN hv hd hcd) hk hx m W B env F σ H Q at_ q
  case h_2 => exact q.elim
  rename_i kvs0 e0
  obtain ⟨p0, u0, s0, f0, h0, c0⟩ := at_.alone e0
  refine ⟨tDGet2Z (tVar i) (UE S W k) (UE S W x), fun X ok => pe_dget2Z (by have := ok.room.un; omega) (pe_var (by rw [ok.N]; exact hN) (by rw [ok.sc]; exact hv) hd hcd) (ue_pe ok) (ue_pe ok) (m X), .ref p0, s0, p0, rfl, ?_, ?_⟩
  · cases c0 with
    | dK _ _ => exact .inl ⟨_, .inl h0⟩
    | dT _ _ _ => exact .inr ⟨_, .inl h0⟩
  · refine hk W B env F σ H _ at_ (Po.bnd q fun kk e2 vk F2 H2 _ l2 a2 r2 q2 => ?_)
    refine hx W B e2 F2 σ H2 _ a2 (Po.bnd q2 fun xx e3 vx F3 H3 _ l3 a3 r3 q3 => ?_)
    split at q3
    · rename_i kvs ea
      obtain ⟨p1, u1, s1, k0, k1, k2⟩ := a3.alone ea
      rw [s0] at s1
      cases s1
      split at q3
      · rename_i r er
        obtain ⟨ov, g, fd⟩ := getZ_rd a3.le (.inl k1) (fun _ => k1) k2 (r2.le l3) er
        exact ⟨ov, g, q3 _ F3 H3 (.refl _) a3 (fnd_get fd r3)⟩
      · exact q3.elim
    · exact q3.elim
end
end Pv
/-! own classes -/
namespace Pv
open PySem PySem.Spec PyProof.Rows L2

/-! ### the machine's rules, where nothing is being shown -/
section
variable {X : Cx} {CX : CXT} {k : Nat} {f C g p a dx : Addr} {fd : FuncData} {ps : List Str} {sp : Sp} {E : L2.St → XK} {x m : Str} {pc pos apos : Pos} {e o : Expr} {es : List Expr} {ta : TE} {t : TA}
def tMethG (C : Addr) (m : Str) (sp : Sp) (E : L2.St → XK) (ta : TE) (t : TA) : TE := fun σ H Q => ta σ H fun x H1 => ∃ a dx fs, x = .ref a ∧ H1 a = some (.ins C dx fs) ∧ fs.lookup m = none ∧ t σ H1 fun vs H2 => sp (x :: vs) H2 Q (E σ)
theorem pe_methG {pl : Sem Bool} (he : PE X o ta) (c : Cls X.K C) (hm : Meth X.K C m f) (F : FnG X.prog X.w X.K X.mg X.base CX k f fd ps sp) (hr : Room k X.A) (gd : X.A.guards = some []) (hb : Binds X.K fd ps []) (hx : ∀ σ, PassesAt CX X σ (E σ)) (ha : PA X (e :: es) t)
    (hst : starEach (e :: es) X.env = (false, eval e X.env) :: starEach es X.env) (hpl : (backTo pos (starEach es X.env)).any (·.1) = false)
    (ht : eval (.Call (.Attribute o m apos) (e :: es) [] pos) X.env = (do
      let ov ← eval o X.env
      standAt apos.atName
      let (f, first) ← holding [ov] (getMethod ov m pl)
      callWith pos f first (backTo pos (starEach (e :: es) X.env)) (backToKw pos (keywordEach [] X.env)))) :
    PE X (.Call (.Attribute o m apos) (e :: es) [] pos) (tMethG C m sp E ta t) := by
  refine ⟨fun pins s σ H Q I h => ?_⟩
  refine PySem.W.methodCall_KW (pl := pl) (thn (he.run pins s σ H _ I h) fun u s1 ⟨x, H1, I1, rx, a, dx, fs, ex, ea, l, q⟩ => ?_) ht
  subst ex
  obtain rfl : u = Value.ref a := rx
  refine getmeth_ok I1 ea c hm l ?_
  refine PySem.W.callWith_K (first := [.ref a]) (h₀ := X.base) I.ok.mod.kin hm.kp (thn (ha.run pos pins s1 σ H1 _ I1 q) fun us s2 ⟨vs, H2, I2, r, q2⟩ => ⟨I2.kIn, ?_⟩) hst hpl
  exact run_G (us := .ref a :: us) (vs := .ref a :: vs) F hr gd hb (hx σ) I2 (.cons rfl r) q2
theorem pe_methG0 {pl : Sem Bool} (he : PE X o ta) (c : Cls X.K C) (hm : Meth X.K C m f) (F : FnG X.prog X.w X.K X.mg X.base CX k f fd ps sp) (hr : Room k X.A) (gd : X.A.guards = some []) (hb : Binds X.K fd ps []) (hx : ∀ σ, PassesAt CX X σ (E σ))
    (ht : eval (.Call (.Attribute o m apos) [] [] pos) X.env = (do
      let ov ← eval o X.env
      standAt apos.atName
      let (f, first) ← holding [ov] (getMethod ov m pl)
      callWith pos f first (backTo pos (starEach [] X.env)) (backToKw pos (keywordEach [] X.env)))) :
    PE X (.Call (.Attribute o m apos) [] [] pos) (tMethG C m sp E ta tNil) := by
  refine ⟨fun pins s σ H Q I h => ?_⟩
  refine PySem.W.methodCall_KW (pl := pl) (thn (he.run pins s σ H _ I h) fun u s1 ⟨x, H1, I1, rx, a, dx, fs, ex, ea, l, q⟩ => ?_) ht
  subst ex
  obtain rfl : u = Value.ref a := rx
  refine getmeth_ok I1 ea c hm l ?_
  exact PySem.W.callWith_K0 (first := [.ref a]) I1.kIn hm.kp (run_G (us := [.ref a]) (vs := [.ref a]) F hr gd hb (hx σ) I1 (.cons rfl .nil) q)
def tMakeG (C : Addr) (sp : Sp) (E : L2.St → XK) (t : TA) : TE := fun σ H Q => t σ H fun vs H1 => ∀ x dx, H1 x = none → H1 dx = none → dx ≠ x →
  sp (.ref x :: vs) (upd (upd H1 dx (.own x)) x (.ins C dx [])) (fun v H2 => v = .non ∧ Q (.ref x) H2) (E σ)
theorem run_makeG {pins : List (Addr × Obj)} {σ : L2.St} {H : Hp} {s : Shared} {Q : VK} {us : List Value} {vs : List V} (M : Mk X.K C f) (F : FnG X.prog X.w X.K X.mg X.base CX k f fd ps sp) (hr : Room (k + 1) X.A) (gd : X.A.guards = some []) (hb : Binds X.K fd ps [])
    (hx : ∀ (pins : List (Addr × Obj)) (H : Hp) (s : Shared) (e : Value) (s' : Shared), Inv X pins σ H s → CX X.stack H s (E σ) e s' → X.xe e s') (I : Inv X pins σ H s) (r : Vals vs us)
    (h : ∀ x dx, H x = none → H dx = none → dx ≠ x → sp (.ref x :: vs) (upd (upd H dx (.own x)) x (.ins C dx [])) (fun v H2 => v = .non ∧ Q (.ref x) H2) (E σ)) :
    wpAny (model X.prog X.w) X.A (call (.ref C) us) (EP X pins σ Q) X.xe s := by
  have hq := h (s.heap.objs.size + 1) s.heap.objs.size (I.hok.fresh (Nat.le_succ _)) (I.hok.fresh (Nat.le_refl _)) (Nat.ne_of_lt (Nat.lt_succ_self _))
  have I2 := Inv.made (C := C) I
  have r2 : Vals (V.ref (s.heap.objs.size + 1) :: vs) (Value.ref (s.heap.objs.size + 1) :: us) := .cons rfl r
  have hl : (Value.ref (s.heap.objs.size + 1) :: us).length = ps.length := by
    have e := r2.length
    rw [F.len _ _ _ _ hq] at e
    exact e.symm
  have b := hb _ (Value.ref (s.heap.objs.size + 1) :: us) I2.kIn (by simpa using hl)
  rw [List.append_nil] at b
  refine wpAny_call (make_map (f := f) I.kIn M.makes M.init (beq_iff_eq.mp M.fn) (codeAny_mono (F.run _ X.stack _ _ ⟨Value.ref (s.heap.objs.size + 1) :: us, []⟩ (Value.ref (s.heap.objs.size + 1) :: us) _ _ (E σ) (hr.make C us []) gd
    (I2.env0.make C us []) b r2 hq) fun r s' hq' => ?_))
  cases r with
  | error e => exact hx pins _ _ e s' I2 hq'
  | ok fl =>
    cases fl with
    | ret u =>
      obtain ⟨v, H', I3, rv, ev, q3⟩ := I2.after hq'
      subst ev
      exact ⟨rv, ⟨V.ref (s.heap.objs.size + 1), H', I3, rfl, q3⟩⟩
    | next => exact False.elim hq'
    | brk => exact False.elim hq'
    | cont => exact False.elim hq'
theorem pe_makeG (M : Mk X.K C f) (F : FnG X.prog X.w X.K X.mg X.base CX k f fd ps sp) (hr : Room (k + 1) X.A) (gd : X.A.guards = some []) (hg : Gl X x) (hm : X.mg x = some (.ref C)) (hb : Binds X.K fd ps []) (hx : ∀ σ, PassesAt CX X σ (E σ)) (ha : PA X (e :: es) t)
    (hdb : (x == ("__debug__" : Str)) = false) (he : starEach (e :: es) X.env = (false, eval e X.env) :: starEach es X.env) (hpl : (backTo pos (starEach es X.env)).any (·.1) = false) : PE X (.Call (.Name x pc) (e :: es) [] pos) (tMakeG C sp E t) := by
  refine ⟨fun pins s σ H Q I h => ?_⟩
  refine wpAny_Call_Name_kw (ld_glob I hg hm ?_ hdb)
  refine PySem.W.callWith_K (h₀ := X.base) I.ok.mod.kin M.kp (thn (ha.run pos pins s σ H _ I h) fun us s1 ⟨vs, H1, I1, r, q⟩ => ⟨I1.kIn, ?_⟩) he hpl
  exact run_makeG M F hr gd hb (hx σ) I1 r q
def tPropG (C : Addr) (sp : Sp) (ta : TE) : TE := fun σ H Q => ta σ H fun x H1 => ∃ a dx fs, x = .ref a ∧ H1 a = some (.ins C dx fs) ∧ sp [.ref a] H1 Q (fun _ _ _ => False)
theorem getprop_okG {pins : List (Addr × Obj)} {σ : L2.St} {H : Hp} {s : Shared} {Q : VK} {b : Bool} {E' : Value → Shared → Prop} {fs : List (Str × V)} (I : Inv X pins σ H s) (ea : H a = some (.ins C dx fs)) (c : Cls X.K C) (hp : PropOf X.K C m p g)
    (F : FnG X.prog X.w X.K X.mg X.base CX k g fd ps sp) (hr : Room (k + 1) X.A) (gd : X.A.guards = some []) (hb : Binds X.K fd ps []) (hx : Passes CX X.nox (fun _ _ _ => False)) (h : sp [.ref a] H Q (fun _ _ _ => False)) :
    wpAny (model X.prog X.w) X.A (getAttr (.ref a) m b) (EP X pins σ Q) E' s := by
  obtain ⟨mA, O, _, _, _, _⟩ := ins_get I.hok ea
  obtain ⟨od, J, _⟩ := O.look
  obtain ⟨rest, hrec⟩ := hp.rec_
  have I1 := I.tok (s.toks + 1)
  have hl : ([Value.ref a] ++ ([] : List Value)).length = ps.length := by
    rw [← F.len _ _ _ _ h]
    rfl
  have hc : (PySem.W.clsIn X.K C).isSome = true := by
    obtain ⟨cd, hc, _⟩ := PySem.W.any_some c.hd
    rw [hc]
    rfl
  have bb := hb _ [Value.ref a] I1.kIn hl
  rw [List.append_nil] at bb
  refine PySem.W.get_bind I.kIn J (PySem.W.plainGet_of (c.get m)).1 (PySem.W.findObj_data hc hp.at_ hp.get hp.tak) (PySem.W.plainGet_of (c.get m)).2 (wpAny_call (PySem.W.prop_get (s := { s with toks := s.toks + 1 }) I.kIn hrec ?_))
  refine codeAny_mono (F.run X.A.in1 X.stack { s with toks := s.toks + 1 } H ⟨[.ref a], []⟩ [.ref a] [.ref a] Q (fun _ _ _ => False) hr.in1 gd I1.env0.in1 bb (.cons rfl .nil) h) fun r s' hq => ?_
  cases r with
  | error er => exact False.elim (hx pins σ H { s with toks := s.toks + 1 } er s' (I1.wish _) hq)
  | ok fl =>
    cases fl with
    | ret u =>
      obtain ⟨v, H', I3, rv, q3⟩ := I1.after hq
      show wpAny _ _ (handedOut u) _ _ _
      rw [PySem.W.handedOut_of (handed_of rv)]
      exact wpAny_pure ⟨v, H', I3, rv, q3⟩
    | next => exact False.elim hq
    | brk => exact False.elim hq
    | cont => exact False.elim hq
theorem pe_propG (he : PE X e ta) (c : Cls X.K C) (hp : PropOf X.K C m p g) (F : FnG X.prog X.w X.K X.mg X.base CX k g fd ps sp) (hr : Room (k + 1) X.A) (gd : X.A.guards = some []) (hb : Binds X.K fd ps []) (hx : Passes CX X.nox (fun _ _ _ => False))
    (hab : attributeBase e m X.env (eval e X.env) = eval e X.env) : PE X (.Attribute e m pos) (tPropG C sp ta) := by
  refine ⟨fun pins s σ H Q I h => ?_⟩
  refine attr_of hab (thn (he.run pins s σ H _ I h) fun u s1 ⟨x, H1, I1, rx, a, dx, fs, ex, ea, q⟩ => ?_)
  subst ex
  obtain rfl : u = Value.ref a := rx
  exact getprop_okG I1 ea c hp F hr gd hb hx q
end

/-! ### classes as the meaning sees them -/
structure MethOk (G : Wo) (lv : Nat) (C m : Str) (n : Nat) (f : Fn) : Prop where
  ex : ∃ (c g : Addr) (fd : FuncData) (ps : List Str), G.mg C = some (.ref c) ∧ Cls G.K c ∧ Meth G.K c m g ∧ ps.length = n + 1 ∧ FnG G.P G.w G.K G.mg G.base (L2.CX G.P G.w) lv g fd ps (spF G f (n + 1)) ∧ Binds G.K fd ps []
structure PropOk (G : Wo) (lv : Nat) (C m : Str) (f : Fn) : Prop where
  ex : ∃ (c p g : Addr) (fd : FuncData) (ps : List Str), G.mg C = some (.ref c) ∧ Cls G.K c ∧ PropOf G.K c m p g ∧ ps.length = 1 ∧ FnG G.P G.w G.K G.mg G.base (L2.CX G.P G.w) lv g fd ps (spF G f 1) ∧ Binds G.K fd ps []
structure MakeOk (G : Wo) (lv : Nat) (C : Str) (n : Nat) (f : Fb) : Prop where
  ex : ∃ (c g : Addr) (fd : FuncData) (ps : List Str), G.mg C = some (.ref c) ∧ Mk G.K c g ∧ ps.length = n + 1 ∧ FnG G.P G.w G.K G.mg G.base (L2.CX G.P G.w) lv g fd ps (spB G f n) ∧ Binds G.K fd ps []
structure FldOk (G : Wo) (C f : Str) : Prop where
  ex : ∃ c : Addr, G.mg C = some (.ref c) ∧ Cls G.K c ∧ NoAttr G.K c f
def lkF (m : Str) : List (Str × W) → Option W
  | [] => none
  | (g, w) :: r => match decide (m = g) with
    | true => some w
    | false => lkF m r
theorem lkF_rd {G : Wo} {F : Hp} {m : Str} : ∀ {fs : List (Str × W)} {hk : List (Str × V)}, fs.map (·.1) = hk.map (·.1) → Rvs G F (fs.map (·.2)) (hk.map (·.2)) → Fnd G F (lkF m fs) (hk.lookup m)
  | [], [], _, _ => rfl
  | [], _ :: _, e, _ => by cases e
  | _ :: _, [], e, _ => by cases e
  | (x, w) :: r, (j, v) :: q, e, rv => by
    simp only [List.map_cons, List.cons.injEq] at e
    obtain ⟨rfl, e⟩ := e
    cases rv with
    | cons r1 r2 =>
      have ih := lkF_rd (m := m) e r2
      unfold lkF List.lookup
      by_cases h : m = x
      · have hb : (m == x) = true := beq_iff_eq.mpr h
        rw [decide_eq_true h, hb]
        exact ⟨v, rfl, r1⟩
      · have hb : (m == x) = false := beq_eq_false_iff_ne.mpr h
        rw [decide_eq_false h, hb]
        exact ih
def putFW (m : Str) (w : W) : List (Str × W) → List (Str × W)
  | [] => [(m, w)]
  | (g, x) :: r => match decide (g = m) with
    | true => (g, w) :: r
    | false => (g, x) :: putFW m w r
theorem putFW_rd {G : Wo} {F : Hp} {m : Str} {w : W} {v : V} (rw_ : Rv G F w v) : ∀ {fs : List (Str × W)} {hk : List (Str × V)}, fs.map (·.1) = hk.map (·.1) → Rvs G F (fs.map (·.2)) (hk.map (·.2)) → (putFW m w fs).map (·.1) = (putF m v hk).map (·.1) ∧ Rvs G F ((putFW m w fs).map (·.2)) ((putF m v hk).map (·.2))
  | [], [], _, _ => ⟨rfl, .cons rw_ .nil⟩
  | [], _ :: _, e, _ => by cases e
  | _ :: _, [], e, _ => by cases e
  | (x, u) :: r, (j, y) :: q, e, rv => by
    simp only [List.map_cons, List.cons.injEq] at e
    obtain ⟨rfl, e⟩ := e
    cases rv with
    | cons r1 r2 =>
      obtain ⟨h1, h2⟩ := putFW_rd rw_ e r2
      unfold putFW putF
      by_cases h : x = m
      · rw [decide_eq_true h, if_pos h]
        exact ⟨by simp [e], .cons rw_ r2⟩
      · rw [decide_eq_false h, if_neg h]
        exact ⟨by simp only [List.map_cons]; rw [h1], .cons r1 h2⟩
def noF (m : Str) (fs : List (Str × W)) : Bool := match lkF m fs with
  | some _ => false
  | none => true
theorem noF_ok {G : Wo} {F : Hp} {m : Str} {fs : List (Str × W)} {hk : List (Str × V)} (e : fs.map (·.1) = hk.map (·.1)) (r : Rvs G F (fs.map (·.2)) (hk.map (·.2))) (h : noF m fs = true) : hk.lookup m = none := by
  have z := lkF_rd (m := m) e r
  unfold noF at h
  cases q : lkF m fs with
  | some w => rw [q] at h; cases h
  | none => rw [q] at z; exact z
/-- o.m(..): o an instance of C -/
def fMeth (C m : Str) (n : Nat) (f : Fn) (fo : FE) (g : FA) : FE := fun env => (fo env).bind fun o e1 => match o with
  | .ins C' fs => if C' = C ∧ noF m fs = true then (g e1).bind fun ws e2 => (if ws.length = n then (f (.ins C' fs :: ws)).rs e2 else .bad) else .bad
  | _ => .bad
def fProp (C m : Str) (f : Fn) (fo : FE) : FE := fun env => (fo env).bind fun o e1 => match o with
  | .ins C' fs => if C' = C then (match f [.ins C' fs] with
    | .ok w => .ok w e1
    | _ => .bad) else .bad
  | _ => .bad
def fFld (C m : Str) (fo : FE) : FE := fun env => (fo env).bind fun o e1 => match o with
  | .ins C' fs => if C' = C then ofO (lkF m fs) e1 else .bad
  | _ => .bad
/-- .. of an instance that the name holds alone -/
def fFldN (C m : Str) (i : Nat) : FE := fun env => match alW env i with
  | some (.ins C' fs) => if C' = C then ofO (lkF m fs) env else .bad
  | some _ => .bad
  | none => fFld C m (fVar i) env
def sSetF (C m : Str) (i : Nat) (f : FE) : FS := fun env => (f env).thn fun w e1 => match alW e1 i with
  | some (.ins C' fs) => if C' = C ∧ fs.length < 1000 then .nx (putW e1 i (.ins C' (putFW m w fs))) else .bad
  | _ => .bad
def fMake (n : Nat) (C : Str) (f : Fb) (g : FA) : FE := fun env => (g env).bind fun ws e1 => if ws.length = n then (match f (.ins C []) ws with
  | .ok .non c => .ok c e1
  | .exc x _ => .exc x e1
  | _ => .bad) else .bad
section
variable {S : Ctx} {pos p p2 apos : Pos} {e o : Expr} {es : List Expr} {f : FE} {fo : FE} {g : FA} {C m x : Str}
theorem re_meth {k n : Nat} {fn : Fn} {pl : Env → Sem Bool} (hc : MethOk S.g k C m n fn) (hk : k ≤ S.lv) (ho : RE S o fo) (ha : RA S (e :: es) g)
    (ht : ∀ env : Env, eval (.Call (.Attribute o m apos) (e :: es) [] pos) env = (do
      let ov ← eval o env
      standAt apos.atName
      let (f, first) ← holding [ov] (getMethod ov m (pl env))
      callWith pos f first (backTo pos (starEach (e :: es) env)) (backToKw pos (keywordEach [] env))) := by intro _; rfl)
    (he : ∀ env : Env, starEach (e :: es) env = (false, eval e env) :: starEach es env := by intro _; rfl) (hpl : ∀ env : Env, (backTo pos (starEach es env)).any (·.1) = false := by intro _; rfl) :
    RE S (.Call (.Attribute o m apos) (e :: es) [] pos) (fMeth C m n fn fo g) := by
  intro W B env F σ H Q at_ q
  obtain ⟨c, gA, fd, ps, hm, cl, me, hl, Fg, hb⟩ := hc.ex
  refine ⟨tMethG c m (spF S.g fn (n + 1)) (WE W) (UE S W o) (UA S W (e :: es)), fun X ok => pe_methG (ue_pe ok) (by rw [ok.K]; exact cl) (by rw [ok.K]; exact me) (fng_of ok Fg) (ok.room.mono hk) ok.gd (by rw [ok.K]; exact hb) (fun σ => passAt ok.tk σ) (ua_pa ok) (he _) (hpl _) (ht _), ?_⟩
  refine ho W B env F σ H _ at_ (Po.bnd q fun ov e1 v F1 H1 _ l1 a1 r1 q1 => ?_)
  split at q1
  case h_2 => exact q1.elim
  rename_i C' fs _eo
  split at q1
  case isFalse => exact q1.elim
  rename_i cond
  obtain ⟨rfl, hno⟩ := cond
  cases r1 with
  | @ins _ _ a cA dx hk' hm' hF ee rr =>
    rw [hm] at hm'
    cases hm'
    refine ⟨a, dx, hk', rfl, a1.le _ _ hF, noF_ok ee rr hno, ?_⟩
    refine ha W B e1 F1 σ H1 _ a1 (Po.bnd q1 fun ws e2 vs F2 H2 _ l2 a2 r2 q2 => ?_)
    split at q2
    · rename_i hn
      exact sp_of a2 (.cons ((Rv.ins hm hF ee rr).le l2) r2) (by simp [hn]) q2
    · exact q2.elim
theorem re_meth0 {k : Nat} {fn : Fn} {pl : Env → Sem Bool} (hc : MethOk S.g k C m 0 fn) (hk : k ≤ S.lv) (ho : RE S o fo)
    (ht : ∀ env : Env, eval (.Call (.Attribute o m apos) [] [] pos) env = (do
      let ov ← eval o env
      standAt apos.atName
      let (f, first) ← holding [ov] (getMethod ov m (pl env))
      callWith pos f first (backTo pos (starEach [] env)) (backToKw pos (keywordEach [] env))) := by intro _; rfl) :
    RE S (.Call (.Attribute o m apos) [] [] pos) (fMeth C m 0 fn fo faNil) := by
  intro W B env F σ H Q at_ q
  obtain ⟨c, gA, fd, ps, hm, cl, me, hl, Fg, hb⟩ := hc.ex
  refine ⟨tMethG c m (spF S.g fn 1) (WE W) (UE S W o) tNil, fun X ok => pe_methG0 (ue_pe ok) (by rw [ok.K]; exact cl) (by rw [ok.K]; exact me) (fng_of ok Fg) (ok.room.mono hk) ok.gd (by rw [ok.K]; exact hb) (fun σ => passAt ok.tk σ) (ht _), ?_⟩
  refine ho W B env F σ H _ at_ (Po.bnd q fun ov e1 v F1 H1 _ l1 a1 r1 q1 => ?_)
  split at q1
  case h_2 => exact q1.elim
  rename_i C' fs _eo
  split at q1
  case isFalse => exact q1.elim
  rename_i cond
  obtain ⟨rfl, hno⟩ := cond
  cases r1 with
  | @ins _ _ a cA dx hk' hm' hF ee rr =>
    rw [hm] at hm'
    cases hm'
    exact ⟨a, dx, hk', rfl, a1.le _ _ hF, noF_ok ee rr hno, sp_of a1 (.cons (Rv.ins hm hF ee rr) .nil) rfl q1⟩
theorem re_prop {k : Nat} {fn : Fn} (hc : PropOk S.g k C m fn) (hk : k + 1 ≤ S.lv) (ho : RE S o fo) (hb : ∀ env : Env, attributeBase o m env (eval o env) = eval o env := by intro _; rfl) : RE S (.Attribute o m pos) (fProp C m fn fo) := by
  intro W B env F σ H Q at_ q
  obtain ⟨c, pA, gA, fd, ps, hm, cl, po, hl, Fg, hbn⟩ := hc.ex
  refine ⟨tPropG c (spF S.g fn 1) (UE S W o), fun X ok => pe_propG (ue_pe ok) (by rw [ok.K]; exact cl) (by rw [ok.K]; exact po) (fng_of ok Fg) (ok.room.mono hk) ok.gd (by rw [ok.K]; exact hbn) (passes_call (X := X.nox) (W := WF) L2.takes0 fun _ _ _ _ z => z) (hb _), ?_⟩
  refine ho W B env F σ H _ at_ (Po.bnd q fun ov e1 v F1 H1 _ l1 a1 r1 q1 => ?_)
  split at q1
  case h_2 => exact q1.elim
  rename_i C' fs _eo
  split at q1
  case isFalse => exact q1.elim
  rename_i hC
  subst hC
  cases r1 with
  | @ins _ _ a cA dx hk' hm' hF ee rr =>
    rw [hm] at hm'
    cases hm'
    refine ⟨a, dx, hk', rfl, a1.le _ _ hF, sp_of (env := e1) a1 (.cons (Rv.ins hm hF ee rr) .nil) rfl ?_⟩
    cases er : fn [.ins C' fs] with
    | ok w => rw [er] at q1; exact q1
    | exc y => rw [er] at q1; exact q1.elim
    | bad => rw [er] at q1; exact q1.elim
theorem re_fld (hc : FldOk S.g C m) (ho : RE S o fo) (hb : ∀ env : Env, attributeBase o m env (eval o env) = eval o env := by intro _; rfl) : RE S (.Attribute o m pos) (fFld C m fo) := by
  intro W B env F σ H Q at_ q
  obtain ⟨c, hm, cl, na⟩ := hc.ex
  refine ⟨tFld S.g.K (UE S W o) m, fun X ok => by have z := pe_fld (f := m) (pos := pos) (ue_pe (S := S) (W := W) (e := o) ok) (hb _); rw [ok.K] at z; exact z, ho W B env F σ H _ at_ (Po.bnd q fun ov e1 v F1 H1 _ l1 a1 r1 q1 => ?_)⟩
  split at q1
  case h_2 => exact q1.elim
  rename_i C' fs _eo
  split at q1
  case isFalse => exact q1.elim
  rename_i hC
  subst hC
  obtain ⟨z, ez, n⟩ := q1.ofO
  cases r1 with
  | @ins _ _ a cA dx hk' hm' hF ee rr =>
    rw [hm] at hm'
    cases hm'
    have fd := lkF_rd (m := m) ee rr
    rw [ez] at fd
    obtain ⟨v, ev, rv⟩ := fd
    exact ⟨a, c, dx, hk', v, rfl, a1.le _ _ hF, cl, na, ev, nx_here n a1 rv⟩
theorem re_fldN {i : Nat} (hc : FldOk S.g C m) (hN : S.N[i]? = some x) (hv : Vis S.sc x) (hb : ∀ env : Env, attributeBase (.Name x p2) m env (eval (.Name x p2) env) = eval (.Name x p2) env := by intro _; rfl) (hd : (x == ("__debug__" : Str)) = false := by decide) (hcd : (x == ("__classdict__" : Str)) = false := by decide) :
    RE S (.Attribute (.Name x p2) m pos) (fFldN C m i) := by
  intro W B env F σ H Q at_ q
  unfold fFldN at q
  split at q
  case h_3 => exact re_fld hc (re_var hN hv hd hcd) hb W B env F σ H Q at_ q
  case h_2 => exact q.elim
  rename_i C' fs e0
  obtain ⟨c, hm, cl, na⟩ := hc.ex
  obtain ⟨p0, u0, s0, f0, h0, c0⟩ := at_.alone e0
  split at q
  case isFalse => exact q.elim
  rename_i hC
  subst hC
  obtain ⟨z, ez, n⟩ := q.ofO
  refine ⟨tFld S.g.K (tVar i) m, fun X ok => by have z := pe_fld (X := X) (f := m) (pos := pos) (pe_var (X := X) (i := i) (pos := p2) (by rw [ok.N]; exact hN) (by rw [ok.sc]; exact hv) hd hcd) (hb _); rw [ok.K] at z; exact z, .ref p0, s0, ?_⟩
  cases c0 with
  | @ins _ _ cA dx hk' hm' ee rr =>
    rw [hm] at hm'
    cases hm'
    have fd := lkF_rd (m := m) ee rr
    rw [ez] at fd
    obtain ⟨v, ev, rv⟩ := fd
    exact ⟨p0, c, dx, hk', v, rfl, h0, cl, na, ev, nx_here n at_ rv⟩
theorem rs_setf {i : Nat} (hc : FldOk S.g C m) (hN : S.N[i]? = some x) (hv : Vis S.sc x) (ha : RE S e f) (hd : (x == ("__debug__" : Str)) = false := by decide) (hcd : (x == ("__classdict__" : Str)) = false := by decide)
    (hs : ∀ env : Env, env.scope = S.sc → swapsWith e (some (.Attribute (.Name x p2) m apos)) pos.line env = pure false := by intro _ _; rfl) : RS S (.Assign [.Attribute (.Name x p2) m apos] e pos) (sSetF C m i f) := by
  intro W B env F σ H D at_ q
  obtain ⟨c, hm, cl, na⟩ := hc.ex
  refine ⟨sFld S.g.K (tVar i) (UE S W e) m, fun X ok => by have z := ps_fld (X := X) (f := m) (pos := pos) (pos' := apos) (pe_var (X := X) (i := i) (pos := p2) (by rw [ok.N]; exact hN) (by rw [ok.sc]; exact hv) hd hcd) (ue_pe (S := S) (W := W) (e := e) ok) (hs _ ok.sc); rw [ok.K] at z; exact z, ?_⟩
  refine ha W B env F σ H _ at_ (Po.stm q fun w e1 v F1 H1 _ l1 a1 r1 q1 => ?_)
  split at q1
  case h_2 => exact q1.elim
  rename_i C' fs e0
  split at q1
  case isFalse => exact q1.elim
  rename_i cond
  obtain ⟨rfl, hl⟩ := cond
  obtain ⟨p0, u0, s0, f0, h0, c0⟩ := a1.alone e0
  cases c0 with
  | @ins _ _ cA dx hk' hm' ee rr =>
    rw [hm] at hm'
    cases hm'
    obtain ⟨z1, z2⟩ := putFW_rd (m := m) r1 ee rr
    have hlen : hk'.length < 1000 := by
      have := congrArg List.length ee
      simp at this
      omega
    exact ⟨.ref p0, s0, p0, c, dx, hk', rfl, h0, cl, na, hlen, q1 F1 σ _ (.refl _) (a1.putW e0 s0 (.ins hm z1 z2))⟩
theorem make_rd {n : Nat} {fn : Fb} {c : Addr} {es0 : List Expr} (hm : S.g.mg C = some (.ref c)) (ha : RA S es0 g) {W : WX} {B : Fx} {env : En} {F : Hp} {σ : L2.St} {H : Hp} {Q : VK} (at_ : At S B env F σ H) (q : PoO S B σ F (fun c d H' => W c d σ H') Q (fMake n C fn g env)) :
    tMakeG c (spB S.g fn n) (WE W) (UA S W es0) σ H Q := by
  refine ha W B env F σ H _ at_ (Po.bndO q fun ws e1 vs F1 H1 _ l1 a1 r1 q1 => fun x dx hx hdx ne => ?_)
  split at q1
  case isFalse => exact q1.elim
  rename_i hn
  have a2 := a1.newO hdx (.own x)
  have hx2 : (upd H1 dx (.own x)) x = none := by rw [upd_ne (Ne.symm ne)]; exact hx
  have a3 := a2.newO hx2 (.ins c dx [])
  obtain ⟨B', hB', g', back⟩ := a3.call
  have hFx : F1 x = none := none_le a1.le hx
  have hBx : B.B x = none := none_le a1.fr hx
  have hfr : Free e1 σ x := a1.ne_own hx
  refine ⟨.ins C [], x, .ins c dx [], ws, vs, B', F1, rfl, hn, g', hFx, (hB' x).2 ⟨hBx, hfr⟩, upd_same, .ins hm rfl .nil, r1, ?_⟩
  cases er : fn (.ins C []) ws with
  | ok w cc =>
    rw [er] at q1
    cases w with
    | non =>
      intro v o F' H' l g'' hF hp rc rv
      cases rv
      exact ⟨rfl, q1 x o F' H' l (back F' H' l g'') hF hBx hfr hp rc⟩
    | _ => exact q1.elim
  | exc y cc =>
    rw [er] at q1
    exact fun cl d o F' H' l g'' hF hp rc rx => q1 cl d F' H' l (back F' H' l g'') rx
  | bad => rw [er] at q1; exact q1.elim
theorem rf_make {k n : Nat} {fn : Fb} (hc : MakeOk S.g k C n fn) (hk : k + 1 ≤ S.lv) (hg : S.sc.names.lookup C = some .globalImplicit) (ha : RA S (e :: es) g)
    (hd : (C == ("__debug__" : Str)) = false := by decide) (he : ∀ env : Env, starEach (e :: es) env = (false, eval e env) :: starEach es env := by intro _; rfl) (hpl : ∀ env : Env, (backTo pos (starEach es env)).any (·.1) = false := by intro _; rfl) :
    RF S (.Call (.Name C p) (e :: es) [] pos) (fMake n C fn g) := by
  intro W B env F σ H Q at_ q
  obtain ⟨c, gA, fd, ps, hm, mk, hl, Fg, hb⟩ := hc.ex
  refine ⟨tMakeG c (spB S.g fn n) (WE W) (UA S W (e :: es)), fun X ok => pe_makeG (by rw [ok.K]; exact mk) (fng_of ok Fg) (ok.room.mono hk) ok.gd (gl_of ok hg) (by rw [ok.mg]; exact hm) (by rw [ok.K]; exact hb) (fun σ => passAt ok.tk σ) (ua_pa ok) hd (he _) (hpl _), make_rd hm ha at_ q⟩
end
end Pv
/-! classmethods, making through a name, isinstance of an own class -/
namespace Pv
open PySem PySem.Spec PyProof.Rows L2

section
variable {X : Cx} {CX : CXT} {k i : Nat} {f C g p : Addr} {mc : Value} {fd : FuncData} {ps : List Str} {sp : Sp} {E : L2.St → XK} {x m : Str} {np pos apos : Pos} {e o : Expr} {es : List Expr} {ta : TE} {t : TA}
/-- x(..), x a name that holds the class at C -/
def tMakeV (C : Addr) (i : Nat) (sp : Sp) (E : L2.St → XK) (t : TA) : TE := fun σ H Q => σ[i]? = some (some (.ref C)) ∧ tMakeG C sp E t σ H Q
theorem pe_makeV (M : Mk X.K C f) (F : FnG X.prog X.w X.K X.mg X.base CX k f fd ps sp) (hr : Room (k + 1) X.A) (gd : X.A.guards = some []) (hN : X.N[i]? = some x) (hv : Vis X.env.scope x) (hb : Binds X.K fd ps []) (hx : ∀ σ, PassesAt CX X σ (E σ)) (ha : PA X (e :: es) t)
    (hd : (x == ("__debug__" : Str)) = false) (hcd : (x == ("__classdict__" : Str)) = false) (he : starEach (e :: es) X.env = (false, eval e X.env) :: starEach es X.env) (hpl : (backTo pos (starEach es X.env)).any (·.1) = false) : PE X (.Call (.Name x np) (e :: es) [] pos) (tMakeV C i sp E t) := by
  refine ⟨fun pins s σ H Q I ⟨hs, h⟩ => ?_⟩
  have nm := (pe_var (X := X) (pos := np) (i := i) hN hv hd hcd).run pins s σ H (fun v H1 => v = .ref C ∧ H1 = H) I ⟨.ref C, hs, rfl, rfl⟩
  refine wpAny_Call_Name_kw (thn nm fun u s1 ⟨v, H1, I1, r1, ev, eH⟩ => ?_)
  subst ev
  rw [eH] at I1
  obtain rfl : u = .ref C := r1
  refine PySem.W.callWith_K (h₀ := X.base) I.ok.mod.kin M.kp (thn (ha.run pos pins s1 σ H _ I1 h) fun us s2 ⟨vs, H2, I2, r, q⟩ => ⟨I2.kIn, ?_⟩) he hpl
  exact run_makeG M F hr gd hb (hx σ) I2 r q
/-- C.m(..), m a classmethod -/
def tCMethG (C : Addr) (sp : Sp) (E : L2.St → XK) (ta : TE) (t : TA) : TE := fun σ H Q => ta σ H fun x H1 => x = .ref C ∧ t σ H1 fun vs H2 => sp (.ref C :: vs) H2 Q (E σ)
theorem run_cmG {pins : List (Addr × Obj)} {σ : L2.St} {H : Hp} {s : Shared} {q : Addr} {Q : VK} {us : List Value} {vs : List V} (F : FnG X.prog X.w X.K X.mg X.base CX k g fd ps sp) (hr : Room k X.A) (gd : X.A.guards = some []) (hb : Binds X.K fd ps []) (hx : ∀ σ, PassesAt CX X σ (E σ)) (I : Inv X ((q, PySem.W.methodObj (.ref g) (.ref C)) :: pins) σ H s)
    (r : Vals vs us) (h : sp (.ref C :: vs) H Q (E σ)) : wpAny (model X.prog X.w) X.A (call (.ref q) us) (EP X pins σ Q) X.xe s := by
  have r2 : Vals (V.ref C :: vs) (Value.ref C :: us) := .cons rfl r
  have hl : (Value.ref C :: us).length = ps.length := r2.length.symm.trans (F.len _ _ _ _ h)
  have b := hb s (Value.ref C :: us) I.kIn (by simpa using hl)
  rw [List.append_nil] at b
  have z : wpAny (model X.prog X.w) X.A (call (.ref q) us) (EP X ((q, PySem.W.methodObj (.ref g) (.ref C)) :: pins) σ Q) X.xe s := by
    refine wpAny_call (PySem.W.method_call (ClX.pin_at I) (codeAny_mono (F.run X.A X.stack s H ⟨Value.ref C :: us, []⟩ (Value.ref C :: us) (V.ref C :: vs) Q (E σ) hr gd I.env0 b r2 h) fun y s' hq => ?_))
    rcases y with er | fl
    · exact hx σ _ H s er s' I hq
    cases fl
    case ret u => exact I.after hq
    all_goals exact False.elim hq
  exact thn z fun _ _ y => ClX.unpinE y
theorem pe_cmethG {pl : Sem Bool} (he : PE X o ta) (r : ClX.CRead X.K C mc) (c : ClX.CMet X.K C mc m p g) (F : FnG X.prog X.w X.K X.mg X.base CX k g fd ps sp) (hr : Room k X.A) (gd : X.A.guards = some []) (hb : Binds X.K fd ps []) (hx : ∀ σ, PassesAt CX X σ (E σ)) (ha : PA X (e :: es) t)
    (hst : starEach (e :: es) X.env = (false, eval e X.env) :: starEach es X.env) (hpl : (backTo pos (starEach es X.env)).any (·.1) = false)
    (ht : eval (.Call (.Attribute o m apos) (e :: es) [] pos) X.env = (do
      let ov ← eval o X.env
      standAt apos.atName
      let (f, first) ← holding [ov] (getMethod ov m pl)
      callWith pos f first (backTo pos (starEach (e :: es) X.env)) (backToKw pos (keywordEach [] X.env)))) :
    PE X (.Call (.Attribute o m apos) (e :: es) [] pos) (tCMethG C sp E ta t) := by
  refine ⟨fun pins s σ H Q I h => ?_⟩
  refine PySem.W.methodCall_KW (pl := pl) (thn (he.run pins s σ H _ I h) fun u s1 ⟨x, H1, I1, rx, ex, q⟩ => ?_) ht
  subst ex
  obtain rfl : u = Value.ref C := rx
  refine ClX.getmethcm_ok I1 r c fun s2 I2 => ?_
  refine ClX.callwith_cm I2 (ClX.base_none I1 (Nat.le_refl _)) c.fi (thn (ha.run pos _ s2 σ H1 _ I2 q) fun us s3 ⟨vs, H2, I3, rv, q2⟩ => ⟨⟨ClX.pin_at I3, I3.kIn⟩, ?_⟩) hst hpl
  exact run_cmG F hr gd hb hx I3 rv q2
end
structure CMetOk (G : Wo) (lv : Nat) (C m : Str) (n : Nat) (f : Fn) : Prop where
  ex : ∃ (c p g : Addr) (mc : Value) (fd : FuncData) (ps : List Str), G.mg C = some (.ref c) ∧ ClX.CRead G.K c mc ∧ ClX.CMet G.K c mc m p g ∧ ps.length = n + 1 ∧ FnG G.P G.w G.K G.mg G.base (L2.CX G.P G.w) lv g fd ps (spF G f (n + 1)) ∧ Binds G.K fd ps []
/-- C.m(..) -/
def fCMet (C : Str) (n : Nat) (f : Fn) (g : FA) : FE := fun env => (g env).bind fun ws e1 => if ws.length = n then (f (.gl C :: ws)).rs e1 else .bad
/-- x(..), x a name that holds the class C -/
def fMakeV (n : Nat) (C : Str) (i : Nat) (f : Fb) (g : FA) : FE := fun env => match env[i]? with
  | some (some (.v (.gl C'))) => if C' = C then fMake n C f g env else .bad
  | _ => .bad
section
variable {S : Ctx} {pos p p2 apos : Pos} {e : Expr} {es : List Expr} {g : FA} {C m x : Str}
theorem re_cmet {k n : Nat} {fn : Fn} {pl : Env → Sem Bool} (hc : CMetOk S.g k C m n fn) (hk : k ≤ S.lv) (hg : S.sc.names.lookup C = some .globalImplicit) (ha : RA S (e :: es) g) (hd : (C == ("__debug__" : Str)) = false := by decide)
    (ht : ∀ env : Env, eval (.Call (.Attribute (.Name C p2) m apos) (e :: es) [] pos) env = (do
      let ov ← eval (.Name C p2) env
      standAt apos.atName
      let (f, first) ← holding [ov] (getMethod ov m (pl env))
      callWith pos f first (backTo pos (starEach (e :: es) env)) (backToKw pos (keywordEach [] env))) := by intro _; rfl)
    (he : ∀ env : Env, starEach (e :: es) env = (false, eval e env) :: starEach es env := by intro _; rfl) (hpl : ∀ env : Env, (backTo pos (starEach es env)).any (·.1) = false := by intro _; rfl) :
    RE S (.Call (.Attribute (.Name C p2) m apos) (e :: es) [] pos) (fCMet C n fn g) := by
  intro W B env F σ H Q at_ q
  obtain ⟨c, pA, gA, mc, fd, ps, hm, rd, cm, hl, Fg, hb⟩ := hc.ex
  refine ⟨tCMethG c (spF S.g fn (n + 1)) (WE W) (tC (.ref c)) (UA S W (e :: es)), fun X ok => pe_cmethG (pe_glob (gl_of ok hg) (by rw [ok.mg]; exact hm) rfl hd) (by rw [ok.K]; exact rd) (by rw [ok.K]; exact cm) (fng_of ok Fg) (ok.room.mono hk) ok.gd (by rw [ok.K]; exact hb) (fun σ => passAt ok.tk σ) (ua_pa ok) (he _) (hpl _) (ht _), rfl, ?_⟩
  refine ha W B env F σ H _ at_ (Po.bnd q fun ws e1 vs F1 H1 _ l1 a1 r1 q1 => ?_)
  split at q1
  · rename_i hn
    exact sp_of a1 (.cons (.gl hm) r1) (by simp [hn]) q1
  · exact q1.elim
theorem rf_makev {k n i : Nat} {fn : Fb} (hc : MakeOk S.g k C n fn) (hk : k + 1 ≤ S.lv) (hN : S.N[i]? = some x) (hv : Vis S.sc x) (ha : RA S (e :: es) g)
    (hd : (x == ("__debug__" : Str)) = false := by decide) (hcd : (x == ("__classdict__" : Str)) = false := by decide) (he : ∀ env : Env, starEach (e :: es) env = (false, eval e env) :: starEach es env := by intro _; rfl) (hpl : ∀ env : Env, (backTo pos (starEach es env)).any (·.1) = false := by intro _; rfl) :
    RF S (.Call (.Name x p) (e :: es) [] pos) (fMakeV n C i fn g) := by
  intro W B env F σ H Q at_ q
  obtain ⟨c, gA, fd, ps, hm, mk, hl, Fg, hb⟩ := hc.ex
  unfold fMakeV at q
  split at q
  case h_2 => exact q.elim
  rename_i C' ei
  split at q
  case isFalse => exact q.elim
  rename_i hC
  subst hC
  obtain ⟨v, h1, h2⟩ := at_.val i _ ei
  have hv' : v = .ref c := by
    cases h2 with
    | gl h =>
      rw [hm] at h
      cases h
      rfl
  subst hv'
  refine ⟨tMakeV c i (spB S.g fn n) (WE W) (UA S W (e :: es)), fun X ok => pe_makeV (by rw [ok.K]; exact mk) (fng_of ok Fg) (ok.room.mono hk) ok.gd (by rw [ok.N]; exact hN) (by rw [ok.sc]; exact hv) (by rw [ok.K]; exact hb) (fun σ => passAt ok.tk σ) (ua_pa ok) hd hcd (he _) (hpl _), h1, ?_⟩
  exact make_rd hm ha at_ q
/-! ### isinstance of an own class -/
structure IsiOk (G : Wo) (C : Str) : Prop where
  ex : ∃ c : Addr, G.mg C = some (.ref c) ∧ (∀ t ∈ ["NoneType", "bool", "int", "str", "tuple", "list", "dict"], PySem.W.kitOne G.K (.type t) (.ref c) = some false) ∧ PySem.W.kitOne G.K (.ref c) (.ref c) = some true ∧
    Cls G.K c ∧ PySem.W.findIn G.K (.ref c) "__class__" = some (some (.builtin "object.__class__")) ∧ PySem.W.specialIn G.K (.builtin "object.__class__") "__get__" = some (some (.builtin "getset_descriptor.__get__")) ∧ PySem.W.takesIn G.K (.builtin "object.__class__") = some true ∧ PySem.W.mroIn G.K c (.type "object") = some true
def fIsiO (C : Str) (ws : List W) : Option W := match ws with
  | [x, .gl C'] => if C' = C then (match x with
    | .ins C2 _ => if C2 = C then some (.bl true) else none
    | x => (match tyW x with
      | some _ => some (.bl false)
      | none => none)) else none
  | _ => none
theorem c_isiO (hc : IsiOk S.g C) : CbOk S (.builtin "isinstance") (fIsiO C) := by
  intro Wx B env F σ H ws vs z Q a rv q n
  obtain ⟨c, hm, no, yes, cl, h1, h2, h3, h4⟩ := hc.ex
  unfold fIsiO at q
  split at q
  case h_2 => cases q
  split at q
  case isFalse => cases q
  rename_i hC
  subst hC
  cases rv with
  | cons r1 rv =>
    cases rv with
    | cons r2 rv =>
      cases rv
      split at q
      · split at q
        · rename_i hC2
          subst hC2
          cases q
          cases r1 with
          | ins hm' hF ee rr =>
            rw [hm] at hm'
            cases hm'
            cases r2 with
            | gl h =>
              rw [hm] at h
              cases h
              exact ⟨rIsiZ S.g.K, fun X ok => by have z := @call_isiZ X; rw [ok.K] at z; exact z, _, _, _, _, _, rfl, .own c, .inl (.base (.ins (a.le _ _ hF) cl h1 h2 h3 h4)), yes, nx_here n a (.bl _)⟩
        · cases q
      · split at q
        · rename_i t e1
          cases q
          have ht : t ∈ ["NoneType", "bool", "int", "str", "tuple", "list", "dict"] := by
            unfold tyW at e1
            split at e1 <;> first | (cases e1; decide) | cases e1
          cases r2 with
          | gl h =>
            rw [hm] at h
            cases h
            exact ⟨rIsiZ S.g.K, fun X ok => by have z := @call_isiZ X; rw [ok.K] at z; exact z, _, _, _, _, _, rfl, .own c, ty_ok a.le r1 e1, no t ht, nx_here n a (.bl _)⟩
        · cases q
theorem re_gcls (hg : S.sc.names.lookup x = some .globalImplicit) (hm : ∃ a : Addr, S.g.mg x = some (.ref a)) (hd : (x == ("__debug__" : Str)) = false := by decide) : RE S (.Name x pos) (fC (.gl x)) := by
  obtain ⟨a, h⟩ := hm
  exact re_gref hg h hd
end
end Pv
/-! Dict comprehensions at the machine: keys of any kind, a block that may let an error out. -/
namespace Pg
open PySem L2 PySem.Spec PyProof.Rows
/-- a key laid by a comprehension or a display -/
theorem d_dictSetX {X : Cx} {pins : List (Addr × Obj)} {σ : L2.St} {H H' : Hp} {s : Shared} {E : Value → Shared → Prop} {D : Addr} {y v : V} {u r : Value} {Q : Unit → Shared → Prop} (hu : X.A.units < cLine) (I : Inv X pins σ H s) (g : DPut H D y v H') (ry : RelV y u) (rv : RelV v r)
    (h : ∀ s', Inv X pins σ H' s' → Q () s') : wpAny (model X.prog X.w) X.A (dictSet D u r) Q E s := by
  rcases g with ⟨kvs, k, e, ey, l, eH⟩ | ⟨kvs, k, b, e, ey, eb, l, eH⟩
  · subst ey eH
    exact d_dictSet I e l ry rv h
  · subst ey eH
    cases (show u = Value.ref b from ry)
    obtain ⟨z, hd, xs, rel, dd⟩ := dt_of I.hok e
    have hzx : xs.length ≤ sizeLine := by rw [← Paired.length rel]; exact z
    have hl : (putK kvs k v).length ≤ sizeLine := by have := length_putK kvs k v; omega
    refine wpAny_dictSet_heap (hsz := hzx) hu (key_of I.hok eb) dd fun h' dd' hs => h _ ?_
    obtain ⟨q, es, ep, hq, h2, h3, h4, _, h5⟩ := dd'
    refine d_write I (by rw [e]; exact True.intro) hs ⟨q, hq⟩ ⟨hl, hd, _, (rel.put k eb rv).keeps fun c ys ec => ?_, q, es, ep, hq, h2, h3, h4, h5⟩
    rw [upd_ne (ne_of ec e (fun z => nomatch z))]
    exact ec
theorem d_dictSetXZ {X : Cx} {pins : List (Addr × Obj)} {σ : L2.St} {H H' : Hp} {s : Shared} {E : Value → Shared → Prop} {D : Addr} {y v : V} {u r : Value} {Q : Unit → Shared → Prop} (hu : X.A.units < cLine) (I : Inv X pins σ H s) (g : Pv.DPutZ H D y v H') (ry : RelV y u) (rv : RelV v r)
    (h : ∀ s', Inv X pins σ H' s' → Q () s') : wpAny (model X.prog X.w) X.A (dictSet D u r) Q E s := by
  rcases g with g | ⟨ha, g⟩
  · exact d_dictSetX hu I g ry rv h
  · exact d_dictSetX hu (Pv.k2t I ha) g ry rv h
section
variable {X : Cx}
/-- {kx: vx for tg in iter if ..}, keys of any kind; the parts by the wish about errors -/
def tDcE (wi : TI) (g : TG) (tt : TT) (tk tv : TE) (vs : List Nat) : TE := fun σ H Q => wi σ H fun J H1 => ∀ D, H1 D = none → ∃ (o0 : HO) (W : Nat → Nat → Hp → Prop), (o0 = .dK [] ∨ o0 = .dT []) ∧ (∃ m, W 0 m (upd H1 D o0)) ∧ ∀ i m H, W i m H →
  (J.stop i H ∧ Q (.ref D) H) ∨ (J.go i H ∧ ∃ Nx : Hp → Prop, (∀ H', Nx H' → ∃ m', m' < m ∧ W (i + 1) m' H') ∧ ∀ x H', J.yld i H x H' → g x (wipe σ vs) H' fun σ2 H2 => wipe σ2 vs = wipe σ vs ∧ tt σ2 H2 fun b H3 =>
    if b = true then tk σ2 H3 fun y H4 => tv σ2 H4 fun z H5 => ∃ H6, Pv.DPutZ H5 D y z H6 ∧ Nx H6 else Nx H3)
abbrev XW := Value → Option Addr → Hp → Prop
def tDcX (W : WX) (wi : TI) (g : XW → TG) (tt : XW → TT) (tk tv : XW → TE) (vs : List Nat) : TE := fun σ H Q => tDcE wi (g fun c d H' => W c d σ H') (tt fun c d H' => W c d σ H') (tk fun c d H' => W c d σ H') (tv fun c d H' => W c d σ H') vs σ H Q
theorem dc_coreX {pins : List (Addr × Obj)} {s : Shared} {σ : L2.St} {H : Hp} {Q : VK} {kx vx tg iter : Expr} {ifs : List Expr} {scope : Scope} {own : List (Str × Nat)} {pos pos' : Pos} {wi : TI} {g : XW → TG} {tt : XW → TT} {tk tv : XW → TE}
    {use : Option (Value → Sem Unit)} {Qf : Value → Shared → Prop} {W : WX} {e0 : Env} {o0 : List Env} {L : Addr} (tp : Top X e0 o0 L) (th : TakesH X W) (hu1 : X.A.units < cLine) (hc : X.calm = true) (hN : X.N.Nodup) (I : Inv X pins σ H s) (hi : PI X tg iter wi) (ok : BlkOk X.N X.env.scope scope own)
    (hg : ∀ (Wo : Value → Option Addr → Hp → Prop) (s : Shared) (H : Hp) (C : Addr) (cl : List (Str × Addr)) (fp : List Addr), PG (X.blkX s H scope (compEnvC scope cl C X.env) fp Wo) tg (g Wo))
    (ht : ∀ (Wo : Value → Option Addr → Hp → Prop) (s : Shared) (H : Hp) (C : Addr) (cl : List (Str × Addr)) (fp : List Addr), PTs (X.blkX s H scope (compEnvC scope cl C X.env) fp Wo) ifs (tt Wo))
    (hkx : ∀ (Wo : XW) (s : Shared) (H : Hp) (C : Addr) (cl : List (Str × Addr)) (fp : List Addr), PE (X.blkX s H scope (compEnvC scope cl C X.env) fp Wo) kx (tk Wo))
    (he : ∀ (Wo : XW) (s : Shared) (H : Hp) (C : Addr) (cl : List (Str × Addr)) (fp : List Addr), PE (X.blkX s H scope (compEnvC scope cl C X.env) fp Wo) vx (tv Wo)) (hs : ∀ x, foldedSetIterable iter X.env x = pure x)
    (h : tDcX W wi g tt tk tv (own.map (·.2)) σ H Q)
    (zhRR : ∀ D ce s' m H', Inv X pins σ H' s' → Q (.ref D) H' → s'.heap.Ns ce.locals m → FpOk X pins H' ce.locals → compPX (model X.prog X.w) X.A X.xe use Qf (.ref D) ce (.ok .next) s') :
    wpAny (model X.prog X.w) X.A (comprehension (.DictComp kx vx [⟨tg, iter, ifs, 0⟩] scope pos) scope X.env pos' newDict false (eval iter X.env) use) Qf X.xe s := by
  have hfree : ∀ y ∈ scope.names, y.2 = .free → ∃ c, X.env.cells.lookup y.1 = some c := fun y hy e => (ok.free y hy e).elim (fun k => I.ok.has _ (.inl k)) (fun k => I.ok.has _ (.inr k))
  refine compr_x (use := use) rfl hs (closure_ok hfree) ok.kind (fun y hy e => by rw [ok.uniq y hy, e]) (thn (hi.run pins s σ H _ I h) fun zxv s1 hx => thn hx fun itv zs2 h2 => ?_)
  obtain ⟨it, fp, ztn, J, H2, e, zI2, T, zst2, zf2, q⟩ := h2
  subst e
  refine wpAny_newObj_type (newEnv_comp ?_)
  generalize hD : zs2.heap.objs.size = D
  have zhDn : H2 D = none := zI2.hok.fresh (Nat.le_of_eq hD)
  obtain ⟨o0, Wm, ho0, ⟨zm0, zw0⟩, turn⟩ := q D zhDn
  generalize zhs3 : ({ zs2 with heap := zs2.heap.push { cls := .type "dict", data := .dict #[] } } : Shared) = s3
  have h3 : s3.heap = zs2.heap.push { cls := .type "dict", data := .dict #[] } := by rw [← zhs3]
  have I3 : Inv X pins σ (upd H2 D o0) s3 := by
    subst zhs3
    refine zI2.laid (t' := zs2.toks) (fun b o e => Heap.get?_push_of_some _ e) (Nat.le_of_eq hD) ?_
    subst hD
    rcases ho0 with rfl | rfl
    · exact dk_empty zs2.heap zI2.big
    · exact dt_empty zs2.heap zI2.big
  have sz : ∀ b ∈ fp, b < zs2.heap.objs.size := fun b hb => let ⟨o, e, _⟩ := T.obj _ _ zst2 b hb; Heap.lt_size e
  have f3 : ∀ b ∈ fp, FpOk X pins (upd H2 D o0) b ∧ b < s3.heap.objs.size := fun b hb => by
    have hlt := sz b hb
    refine ⟨⟨(upd_ne (by rw [← hD]; exact Nat.ne_of_lt hlt)).trans (zf2 b hb).1, (zf2 b hb).2⟩, ?_⟩
    rw [h3, Heap.size_push]
    exact Nat.lt_succ_of_lt hlt
  have zst3 : ztn 0 s3.heap := T.keep _ _ _ zst2 fun b _ o e => h3 ▸ Heap.get?_push_of_some _ e
  have zI4 := block_start I3 ok hN f3
  generalize hWo : (fun c d H' => W c d σ H' : Value → Option Addr → Hp → Prop) = Wo at turn
  have hW : ∀ c d H, Wo c d H → W c d σ H := fun c d H z => by rw [← hWo] at z; exact z
  have pg := hg Wo s3 (upd H2 D o0) s3.heap.objs.size (cellsFrom (s3.heap.objs.size + 1) scope.names (cloFrom X.env.cells scope.names [])) fp
  have pt := ht Wo s3 (upd H2 D o0) s3.heap.objs.size (cellsFrom (s3.heap.objs.size + 1) scope.names (cloFrom X.env.cells scope.names [])) fp
  have pk := hkx Wo s3 (upd H2 D o0) s3.heap.objs.size (cellsFrom (s3.heap.objs.size + 1) scope.names (cloFrom X.env.cells scope.names [])) fp
  have pe := he Wo s3 (upd H2 D o0) s3.heap.objs.size (cellsFrom (s3.heap.objs.size + 1) scope.names (cloFrom X.env.cells scope.names [])) fp
  show codeAny _ _ (.compStart (.DictComp kx vx [⟨tg, iter, ifs, 0⟩] scope pos) 0 (.ref it) (.ref D) (compEnvC scope (cellsFrom (s3.heap.objs.size + 1) scope.names (cloFrom X.env.cells scope.names [])) s3.heap.objs.size X.env)) (compPX (model X.prog X.w) X.A X.xe use Qf (.ref D) (compEnvC scope (cellsFrom (s3.heap.objs.size + 1) scope.names (cloFrom X.env.cells scope.names [])) s3.heap.objs.size X.env)) { s3 with heap := pushCells (s3.heap.push { cls := .type "dict", data := .dict #[] }) scope.names }
  have znfp : ∀ b ∈ fp, (upd H2 D o0) b = none := fun b hb => (f3 b hb).1.1
  generalize zhce : compEnvC scope (cellsFrom (s3.heap.objs.size + 1) scope.names (cloFrom X.env.cells scope.names [])) s3.heap.objs.size X.env = ce at zI4 pg pt pk pe ⊢
  have cL : ce.locals = s3.heap.objs.size := by rw [← zhce]; rfl
  have cF : ce.frame = X.env.frame := by rw [← zhce]; rfl
  generalize zhH3 : upd H2 D o0 = H3 at I3 zI4 pg pt pk pe zw0 znfp f3
  generalize zhs4 : ({ s3 with heap := pushCells (s3.heap.push { cls := .type "dict", data := .dict #[] }) scope.names } : Shared) = zs4 at zI4 ⊢
  have zI4 : Inv (X.blkX s3 H3 scope ce fp Wo) [] (wipe σ (own.map (·.2))) H3 zs4 := zI4.wish _
  have zst4 : ztn 0 zs4.heap := T.keep _ _ _ zst3 fun b _ o e => zhs4 ▸ pushCells_keeps _ _ _ _ (Heap.get?_push_of_some _ e)
  have stat : ∀ {σ' : L2.St} {H' : Hp} {s' : Shared}, Inv (X.blkX s3 H3 scope ce fp Wo) [] σ' H' s' → (∀ b ∈ fp, H' b = none) → ∀ b ∈ fp, FpOk (X.blkX s3 H3 scope ce fp Wo) [] H' b := fun {σ' H' s'} I' hn b hb =>
    ⟨hn b hb, (I'.ok.exf b hb).1, I'.ok.exfs b hb, .inl hb, fun x c e => (I'.ok.exf b hb).2 x c e, fun p hp => absurd (show p ∈ ([] : List (Addr × Obj)) ++ [] from hp) (by simp)⟩
  have fail : ∀ u s', (X.blkX s3 H3 scope ce fp Wo).xe u s' → notedBy (model X.prog X.w) X.A ce (fun e zs2 => compPX (model X.prog X.w) X.A X.xe use Qf (.ref D) ce (.error e) zs2) u s' := fun u s' z => block_exc tp th hW I3 cL cF f3 z
  have loop : codeAny (model X.prog X.w) X.A (.compLoop (.DictComp kx vx [⟨tg, iter, ifs, 0⟩] scope pos) 0 (.ref it) (.ref D) ce) (compPX (model X.prog X.w) X.A X.xe use Qf (.ref D) ce) zs4 := by
    refine compLoop_anyD (fun n s' => ∃ i H', Inv (X.blkX s3 H3 scope ce fp Wo) [] (wipe σ (own.map (·.2))) H' s' ∧ ztn i s'.heap ∧ (∀ b ∈ fp, H' b = none) ∧ Wm i n H') ?_ zm0 ⟨0, H3, zI4, zst4, znfp, zw0⟩
    rintro n zs5 ⟨i, zH5, zI5, st5, zn5, zw5⟩
    rcases turn i n zH5 zw5 with ⟨stop, qq⟩ | ⟨go, Nx, hNx, step⟩
    · refine thnF (T.done (X.blkX s3 H3 scope ce fp Wo) rfl rfl rfl hc i [] zs5 _ zH5 (fun _ _ => False) zI5 (stat zI5 zn5) st5 stop) fun r zs6 ⟨hr, zI6⟩ => ?_
      subst hr
      have zI7 : Inv X pins σ zH5 zs6 := I3.call' (ch := fp) zI6.os zI6.base zI6.hok zI6.bare fun b hb => ⟨(f3 b hb).1.2.2.2.1, (f3 b hb).1.2.1, (f3 b hb).1.2.2.2.2.1, (f3 b hb).1.2.2.2.2.2⟩
      have nC : zH5 ce.locals = none := zI6.free
      obtain ⟨m, hn, _⟩ := zI6.loc
      exact zhRR D ce zs6 m zH5 zI7 qq hn (I3.fpOk (by rw [cL]; exact Nat.le_refl _) nC)
    · refine thnF (T.item (X.blkX s3 H3 scope ce fp Wo) rfl rfl rfl hc i [] zs5 _ zH5 (fun _ _ => False) zI5 (stat zI5 zn5) st5 go) fun r zs6 ⟨u, hr, zh6⟩ => ?_
      subst hr
      refine thnF zh6 fun _ zs7 ⟨x, zH7, zI7, r7, y7, zst7, zn7⟩ => ?_
      have zI7' := zI7.pinned (stat zI7 zn7) (T.obj _ _ zst7)
      refine thnX (pg.run _ zs7 _ zH7 x u _ zI7' r7 (step x zH7 y7)) (fun _ zs8 ⟨σ8, zH8, zI8, hw8, zq8⟩ => ?_) fail
      refine thnX (pt.run _ zs8 σ8 zH8 _ zI8 zq8) (fun b zs9 ⟨zH9, zI9, zq9⟩ => ?_) fail
      have fin : ∀ {s' : Shared} {H' : Hp}, Inv (X.blkX s3 H3 scope ce fp Wo) ([] ++ pinsAt fp zs7.heap) σ8 H' s' → Nx H' → ∃ m, m < n ∧ ∃ i H', Inv (X.blkX s3 H3 scope ce fp Wo) [] (wipe σ (own.map (·.2))) H' s' ∧ ztn i s'.heap ∧ (∀ b ∈ fp, H' b = none) ∧ Wm i m H' := fun {s' H'} I' nx => by
        obtain ⟨m', hm, w'⟩ := hNx H' nx
        have zpin' : ∀ b ∈ fp, ∀ o, zs7.heap.get? b = some o → s'.heap.get? b = some o ∧ H' b = none := fun b hb o e => have z := I'.pin (b, o) (List.mem_append_right _ (List.mem_append_right _ (mem_pinsAt hb e))); ⟨z.1, z.2.1⟩
        have hl : (wipe σ (own.map (·.2))).length = σ8.length := by rw [← hw8, wipe_length]
        refine ⟨m', hm, i + 1, H', (I'.unpinned (pins := [])).weak hl (fun j v e => (wipe_some (hw8 ▸ e)).1), T.keep _ _ _ zst7 fun b hb o e => (zpin' b hb o e).1, fun b hb => ?_, w'⟩
        obtain ⟨o, e, _⟩ := T.obj _ _ zst7 b hb
        exact (zpin' b hb o e).2
      cases b with
      | false =>
        simp only [Bool.false_eq_true, if_false] at zq9 ⊢
        exact fin zI9 zq9
      | true =>
        simp only [if_true] at zq9 ⊢
        refine thnX (pk.run _ zs9 σ8 zH9 _ zI9 zq9) (fun u1 zs10 ⟨y1, zH10, zI10, ry, q10⟩ => ?_) fail
        refine thnX (pe.run _ zs10 σ8 zH10 _ zI10 q10) (fun u2 zs11 ⟨y2, zH11, zI11, rz, H6, put, nx⟩ => ?_) fail
        exact d_dictSetXZ (X := X.blkX s3 H3 scope ce fp Wo) hu1 zI11 put ry rz fun _ I6 => fin I6 nx
  exact codeAny_compStart_dict loop (T.self X.A 0 _ _ _ zst4 loop)
/-- as a value -/
theorem pe_dcX {kx vx tg iter : Expr} {ifs : List Expr} {scope : Scope} {own : List (Str × Nat)} {pos : Pos} {wi : TI} {g : XW → TG} {tt : XW → TT} {tk tv : XW → TE} {W : WX} {e0 : Env} {o0 : List Env} {L : Addr} (tp : Top X e0 o0 L) (th : TakesH X W)
    (hu1 : X.A.units < cLine) (hc : X.calm = true) (hN : X.N.Nodup) (hi : PI X tg iter wi) (ok : BlkOk X.N X.env.scope scope own) (hg : ∀ (Wo : Value → Option Addr → Hp → Prop) (s : Shared) (H : Hp) (C : Addr) (cl : List (Str × Addr)) (fp : List Addr), PG (X.blkX s H scope (compEnvC scope cl C X.env) fp Wo) tg (g Wo))
    (ht : ∀ (Wo : Value → Option Addr → Hp → Prop) (s : Shared) (H : Hp) (C : Addr) (cl : List (Str × Addr)) (fp : List Addr), PTs (X.blkX s H scope (compEnvC scope cl C X.env) fp Wo) ifs (tt Wo))
    (hkx : ∀ (Wo : XW) (s : Shared) (H : Hp) (C : Addr) (cl : List (Str × Addr)) (fp : List Addr), PE (X.blkX s H scope (compEnvC scope cl C X.env) fp Wo) kx (tk Wo))
    (he : ∀ (Wo : XW) (s : Shared) (H : Hp) (C : Addr) (cl : List (Str × Addr)) (fp : List Addr), PE (X.blkX s H scope (compEnvC scope cl C X.env) fp Wo) vx (tv Wo)) (hs : ∀ x, foldedSetIterable iter X.env x = pure x := by intro _; rfl) :
    PE X (.DictComp kx vx [⟨tg, iter, ifs, 0⟩] scope pos) (tDcX W wi g tt tk tv (own.map (·.2))) := by
  constructor
  intro pins s σ H Q I h
  rw [arm_eval_DictComp]
  refine dc_coreX tp th hu1 hc hN I hi ok hg ht hkx he hs h fun D ce s' m H' I' q hn ⟨f0, f1, zf2, f3, f4, f5⟩ => ⟨m, hn, fun h2 sb => ?_⟩
  exact ⟨.ref D, H', I'.turned (t' := s'.toks) (fun b o hb e => (sb.2 b hb).trans e) f0 f1 f3 f4 f5, rfl, q⟩
end
end Pg
/-! dict comprehensions -/
namespace Pv
open PySem PySem.Spec PyProof.Rows L2
open Pg (TakesH Top XEA WB tDcX pe_dcX)
def compBD (vs : List Nat) (g : FG) (t : FT) (fk fv : FE) : W → En → Rs (Option (W × W)) := fun w env => match g w (wipeE env vs) with
  | none => .bad
  | some e1 => (t e1).bind fun b e2 => match b with
    | true => (fk e2).bind fun k e3 => (fv e3).bind fun v e4 => .ok (some (k, v)) e4
    | false => .ok none e2
def compDL (body : W → En → Rs (Option (W × W))) : List W → List (W × W) → En → Rs (List (W × W))
  | [], acc, env => .ok acc env
  | w :: ws, acc, env => match body w env with
    | .ok (some p) e => if fitK acc p.1 = true ∧ acc.length < sizeLine then compDL body ws (putD p.1 p.2 acc) e else .bad
    | .ok none e => compDL body ws acc e
    | .exc x e => .exc x e
    | .bad => .bad
def fCompD (I : FI) (vs : List Nat) (g : FG) (t : FT) (fk fv : FE) : FE := fun env => (I env).bind fun ws e1 => if noAl e1 vs = true then (match compDL (compBD vs g t fk fv) ws [] e1 with
  | .ok kvs e => .ok (.dic kvs) (restE e1 (wipeE e vs) vs)
  | .exc x e => .exc x (restE e1 (wipeE e vs) vs)
  | .bad => .bad) else .bad
section
variable {S : Ctx} {pos : Pos}
def BkD (S : Ctx) (B : Fx) (σ : L2.St) (F : Hp) (e0 : En) (vs : List Nat) (Wd : XW) (Q : VK) : Rs (List (W × W)) → Prop
  | .ok kvs e => PoO S B σ F Wd Q (.ok (.dic kvs) (restE e0 (wipeE e vs) vs))
  | .exc x e => PoO S B σ F Wd Q (.exc x (restE e0 (wipeE e vs) vs))
  | .bad => False
theorem BkD.at_ {B : Fx} {σ : L2.St} {F F1 : Hp} {e0 : En} {vs : List Nat} {Wd : XW} {Q : VK} {r : Rs (List (W × W))} (l : Le F F1) (h : BkD S B σ F e0 vs Wd Q r) : BkD S B σ F1 e0 vs Wd Q r := by
  cases r with
  | ok ys e => exact fun p o F' H' l' a b c d e r => h p o F' H' (l.trans l') a b c d e r
  | exc x e => exact fun c d F' H' l' a r => h c d F' H' (l.trans l') a r
  | bad => exact h
theorem dcomp_rd {tg iter kx vx : Expr} {ifs : List Expr} {scope : Scope} {vs is : List Nat} {I : FI} {g : FG} {t : FT} {fk fv : FE} (hi : RI S tg iter I) (hg : RG (S.blk scope) tg is g) (his : ∀ i ∈ is, i ∈ vs) (ht : RTs (S.blk scope) ifs t) (hk : RE (S.blk scope) kx fk) (hv : RE (S.blk scope) vx fv)
    {W : WX} {B : Fx} {env : En} {F : Hp} {σ : L2.St} {H : Hp} {Q : VK} (at_ : At S B env F σ H) (q : PoO S B σ F (fun c d H' => W c d σ H') Q (fCompD I vs g t fk fv env)) :
    tDcX W (UI S W tg iter) (fun Wo => UG (S.blk scope) (WB Wo) tg) (fun Wo => UTs (S.blk scope) (WB Wo) ifs) (fun Wo => UE (S.blk scope) (WB Wo) kx) (fun Wo => UE (S.blk scope) (WB Wo) vx) vs σ H Q := by
  refine hi W B env F σ H _ at_ (Po.bndO q fun ws e1 J F1 H1 _ l1 a1 r1 q1 => fun D hD => ?_)
  split at q1
  case isFalse => exact q1.elim
  rename_i hno
  have hD1 : F1 D = none := none_le a1.le hD
  have hDB : B.B D = none := none_le a1.fr hD
  have q2 : BkD S B σ F1 e1 vs (fun c d H' => W c d σ H') Q (compDL (compBD vs g t fk fv) ws [] e1) := by
    cases e : compDL (compBD vs g t fk fv) ws [] e1 with
    | ok ys e => rw [e] at q1; exact q1
    | exc x e => rw [e] at q1; exact q1
    | bad => rw [e] at q1; exact q1
  clear q q1
  let BD : HO → Fx := fun u => { B with B := upd B.B D u }
  let St : Nat → List (Pv.W × Pv.W) → En → Hp → Hp → Prop := fun i acc ev F2 H2 => ∃ u, At S (BD u) (wipeE ev vs) F2 (wipe σ vs) H2 ∧ Le F1 F2 ∧ Rc S.g F2 (.dic acc) u ∧ BkD S B σ F2 e1 vs (fun c d H' => W c d σ H') Q (compDL (compBD vs g t fk fv) (ws.drop i) acc ev)
  have start : St 0 [] e1 F1 (upd H1 D (.dK [])) := by
    refine ⟨.dK [], ?_, .refl _, .dK rfl .nil, by rw [List.drop_zero]; exact q2⟩
    have a0 := (a1.newO hD (.dK [])).wipe vs
    refine a0.push (.dK []) hD1 (fun i ev w h1 h2 h3 => ?_) upd_same
    have h1' := h1
    rw [wipeE_get] at h1'
    by_cases qq : i ∈ vs ∧ i < e1.length
    · rw [if_pos qq] at h1'; cases h1'
    · rw [if_neg qq] at h1'
      rw [wipe_get, if_neg (by rw [← a1.len]; exact qq)] at h3
      exact a1.ne_own hD i ev w h1' h2 h3
  have fin : ∀ {u : HO} {ev : En} {F2 H2 : Hp}, At S (BD u) (wipeE ev vs) F2 (wipe σ vs) H2 → Le F1 F2 → At S B (restE e1 (wipeE ev vs) vs) F2 σ H2 ∧ F2 D = none ∧ H2 D = some u ∧ Free (restE e1 (wipeE ev vs) vs) σ D := fun {u ev F2 H2} aw l => by
    obtain ⟨b, z1, z2, z3⟩ := aw.pop hDB
    refine ⟨a1.rest b l hno, z1, z2, fun i ev' w h1 h2 h3 => ?_⟩
    rw [restE_get] at h1
    by_cases qq : i ∈ vs ∧ i < (wipeE ev vs).length
    · rw [if_pos qq] at h1
      cases e : e1[i]? with
      | none => rw [e] at h1; cases h1
      | some x =>
        rw [e] at h1
        have z : x = some ev' := Option.some.inj h1
        rw [z] at e
        have nz := noAl_ok hno i qq.1
        unfold alW at nz
        rw [e] at nz
        dsimp only at nz
        rw [nz] at h2
        cases h2
    · rw [if_neg qq] at h1
      refine z3 i ev' w h1 h2 ?_
      rw [wipe_get, if_neg (by
        have hl : (wipeE ev vs).length = σ.length := by rw [b.len, wipe_len]
        rw [← hl]; exact qq)]
      exact h3
  refine ⟨.dK [], fun i m H' => m = ws.length - i ∧ i ≤ ws.length ∧ ∃ acc ev F2, St i acc ev F2 H', .inl rfl, ⟨ws.length, rfl, Nat.zero_le _, [], _, _, start⟩, ?_⟩
  rintro i m H2 ⟨rfl, hi', acc, ev, F2, u, a2, l2, ra, h⟩
  have src := r1 (BD u) _ F2 (wipe σ vs) H2 l2 a2 i
  cases e : ws[i]? with
  | none =>
    have hd : ws.drop i = [] := List.drop_eq_nil_of_le (List.getElem?_eq_none_iff.mp e)
    rw [hd] at h
    refine .inl ⟨src.1 e, ?_⟩
    obtain ⟨b, z1, z2, z3⟩ := fin a2 l2
    unfold compDL BkD at h
    exact h D _ F2 H2 (.refl _) b z1 hDB z3 z2 ra
  | some w =>
    have hlt : i < ws.length := (List.getElem?_eq_some_iff.mp e).1
    have hd : ws.drop i = w :: ws.drop (i + 1) := by
      rw [List.drop_eq_getElem_cons hlt]
      have := (List.getElem?_eq_some_iff.mp e).2
      rw [this]
    rw [hd] at h
    obtain ⟨go, yl⟩ := src.2 w e
    refine .inr ⟨go, fun H' => ∃ m', m' < ws.length - i ∧ m' = ws.length - (i + 1) ∧ i + 1 ≤ ws.length ∧ ∃ acc ev F2, St (i + 1) acc ev F2 H', fun H' z => z, fun x H3 y => ?_⟩
    obtain ⟨F3, l3, a3, rx, _⟩ := yl x H3 y
    have l13 := l2.trans l3
    have h3 := BkD.at_ l3 h
    unfold compDL at h3
    have out : ∀ {y : XV} {ev' : En} {F4 : Hp} {σ4 : L2.St}, Le F3 F4 → wipe σ4 vs = wipe σ vs → BkD S B σ F3 e1 vs (fun c d H' => W c d σ H') Q (.exc y ev') → ∀ c d F' H', Le F4 F' → At S (BD u) ev' F' σ4 H' → Rx S.g F' y c d → W c d σ H' := fun {y ev' F4 σ4} l4 hw hb c d F' H' l' a' rx' => by
      have aw := a'.wipe vs
      rw [hw] at aw
      have l1' : Le F1 F' := l13.trans (l4.trans l')
      obtain ⟨b, _⟩ := aw.pop hDB
      exact hb c d F' H' (l4.trans l') (a1.rest b l1' hno) rx'
    cases eg : g w (wipeE ev vs) with
    | none => rw [show compBD vs g t fk fv w ev = .bad from by unfold compBD; rw [eg]] at h3; exact False.elim h3
    | some e2 =>
      rw [show compBD vs g t fk fv w ev = ((t e2).bind fun b e2 => match b with
        | true => (fk e2).bind fun k e3 => (fv e3).bind fun v e4 => .ok (some (k, v)) e4
        | false => .ok none e2) from by unfold compBD; rw [eg] <;> rfl] at h3
      have an : At (S.blk scope) (BD u) (wipeE ev vs) F3 (wipe σ vs) H3 := a3.cast rfl
      refine hg _ w x _ _ e2 F3 _ H3 _ an rx eg fun σ' at' outs => ⟨wipe_out outs his, ?_⟩
      have hw' := wipe_out outs his
      refine ht _ _ e2 F3 σ' H3 _ at' ?_
      cases et : t e2 with
      | bad => rw [et] at h3; exact False.elim h3
      | exc y e3 =>
        rw [et] at h3
        exact fun c d F' H' l' a' rx' => out (.refl _) hw' h3 c d F' H' l' (a'.cast rfl) rx'
      | ok bt e3 =>
        rw [et] at h3
        intro bt' F4 H4 l4 a4 rb
        cases (show bt = bt' from rb)
        have l14 := l13.trans l4
        cases bt with
        | false =>
          refine iteF ⟨ws.length - (i + 1), by omega, rfl, hlt, acc, e3, F4, u, ?_, l14, ra.le (l3.trans l4), BkD.at_ l4 h3⟩
          have z := a4.wipe vs
          rw [hw'] at z
          exact z.cast rfl
        | true =>
          refine iteT ?_
          have h4 : BkD S B σ F3 e1 vs (fun c d H' => W c d σ H') Q (match (fk e3).bind fun k e3 => (fv e3).bind fun v e4 => .ok (some (k, v)) e4 with
              | .ok (some p) e => if fitK acc p.1 = true ∧ acc.length < sizeLine then compDL (compBD vs g t fk fv) (ws.drop (i + 1)) (putD p.1 p.2 acc) e else .bad
              | .ok none e => compDL (compBD vs g t fk fv) (ws.drop (i + 1)) acc e
              | .exc x e => .exc x e
              | .bad => .bad) := h3
          refine hk _ _ e3 F4 σ' H4 _ a4 ?_
          cases ek : fk e3 with
          | bad => rw [ek] at h4; exact False.elim h4
          | exc y e4 =>
            rw [ek] at h4
            exact fun c d F' H' l' a' rx' => out l4 hw' h4 c d F' H' l' (a'.cast rfl) rx'
          | ok kw e4 =>
            rw [ek] at h4
            intro vk F5 H5 l5 a5 rk
            have h5 : BkD S B σ F3 e1 vs (fun c d H' => W c d σ H') Q (match (fv e4).bind fun v e4 => .ok (some (kw, v)) e4 with
              | .ok (some p) e => if fitK acc p.1 = true ∧ acc.length < sizeLine then compDL (compBD vs g t fk fv) (ws.drop (i + 1)) (putD p.1 p.2 acc) e else .bad
              | .ok none e => compDL (compBD vs g t fk fv) (ws.drop (i + 1)) acc e
              | .exc x e => .exc x e
              | .bad => .bad) := h4
            refine hv _ _ e4 F5 σ' H5 _ a5 ?_
            cases ee : fv e4 with
            | bad => rw [ee] at h5; exact False.elim h5
            | exc y e5 =>
              rw [ee] at h5
              exact fun c d F' H' l' a' rx' => out (l4.trans l5) hw' h5 c d F' H' l' (a'.cast rfl) rx'
            | ok vw e5 =>
              rw [ee] at h5
              intro v F6 H6 l6 a6 rv
              have l16 := l14.trans (l5.trans l6)
              have h6 : BkD S B σ F3 e1 vs (fun c d H' => W c d σ H') Q (if fitK acc kw = true ∧ acc.length < sizeLine then compDL (compBD vs g t fk fv) (ws.drop (i + 1)) (putD kw vw acc) e5 else .bad) := h5
              split at h6
              case isFalse => exact False.elim h6
              rename_i cond
              have z := a6.wipe vs
              rw [hw'] at z
              have z' : At S (BD u) (wipeE e5 vs) F6 (wipe σ vs) H6 := z.cast rfl
              obtain ⟨b, b1, b2, b3⟩ := z'.pop hDB
              obtain ⟨H7, u7, pz, rfl, rc7⟩ := dput_ok b.le b1 b2 (ra.le (l3.trans (l4.trans (l5.trans l6)))) (rk.le l6) rv cond.1 cond.2
              exact ⟨_, pz, ws.length - (i + 1), by omega, rfl, hlt, putD kw vw acc, e5, F6, u7, (b.wr b1 hDB b3 b2 ra.mu).push rc7.mu b1 b3 upd_same, l16, rc7, BkD.at_ (l4.trans (l5.trans l6)) h6⟩
theorem rf_dcomp {tg iter kx vx : Expr} {ifs : List Expr} {scope : Scope} {own : List (Str × Nat)} {is : List Nat} {I : FI} {g : FG} {t : FT} {fk fv : FE} (ok0 : blkC S.N S.sc scope own = true) (hi : RI S tg iter I) (hg : RG (S.blk scope) tg is g) (ht : RTs (S.blk scope) ifs t) (hk : RE (S.blk scope) kx fk) (hv : RE (S.blk scope) vx fv)
    (his : ∀ i ∈ is, i ∈ own.map (·.2) := by decide) (hs : ∀ (env : Env) (x : Value), foldedSetIterable iter env x = pure x := by intro _ _; rfl) : RF S (.DictComp kx vx [⟨tg, iter, ifs, 0⟩] scope pos) (fCompD I (own.map (·.2)) g t fk fv) := fun W B env F σ H Q at_ q =>
  ⟨_, fun X ok => let ⟨_, _, _, tp⟩ := ok.top; pe_dcX tp ok.th (by have := ok.room.un; omega) ok.calm ok.nodup (ui_pi ok) (by rw [ok.N, ok.sc]; exact blkOk_by ok0) (fun Wo s H C cl fp => ug_pg (blk_okX ok scope Wo s H C cl fp)) (fun Wo s H C cl fp => uts_pts (blk_okX ok scope Wo s H C cl fp)) (fun Wo s H C cl fp => ue_pe (blk_okX ok scope Wo s H C cl fp)) (fun Wo s H C cl fp => ue_pe (blk_okX ok scope Wo s H C cl fp)) (hs _), dcomp_rd hi hg his ht hk hv at_ q⟩
end
end Pv
/-! what else lists can do -/
namespace Pv
open PySem PySem.Spec PyProof.Rows L2
/-- x.pop(), x having its list alone -/
def fPop (i : Nat) : FE := fun env => match alW env i with
  | some (.lst xs) => (match xs[xs.length - 1]? with
    | some w => .ok w (putW env i (.lst xs.dropLast))
    | none => .bad)
  | _ => .bad
theorem Rvs.dropLast {S : Wo} {F : Hp} : ∀ {ws : List W} {vs : List V}, Rvs S F ws vs → Rvs S F ws.dropLast vs.dropLast
  | _, _, .nil => .nil
  | _, _, .cons h .nil => .nil
  | _, _, .cons h (.cons h2 r) => .cons h (Rvs.dropLast (.cons h2 r))
section
variable {S : Ctx} {pos p2 apos : Pos}
theorem re_pop {i : Nat} {x : Str} (hN : S.N[i]? = some x) (hv : Vis S.sc x) (hd : (x == ("__debug__" : Str)) = false := by decide) (hcd : (x == ("__classdict__" : Str)) = false := by decide)
    (hb : ∀ env : Env, attributeBase (.Name x p2) ("pop" : Str) env (eval (.Name x p2) env) = eval (.Name x p2) env := by intro _; rfl) (hline : (apos.endLine == pos.line) = true := by rfl) :
    RE S (.Call (.Attribute (.Name x p2) ("pop" : Str) apos) [] [] pos) (fPop i) := by
  intro W B env F σ H Q at_ q
  unfold fPop at q
  split at q
  case h_2 => exact q.elim
  rename_i xs e0
  obtain ⟨p0, u0, s0, f0, h0, c0⟩ := at_.alone e0
  split at q
  case h_2 => exact q.elim
  rename_i w ew
  cases c0 with
  | @lst _ us rx lx =>
    obtain ⟨y, ey, ry⟩ := rx.get ew
    refine ⟨tBM0 S.g.K "list" rPop (tVar i), fun X ok => ?_, .ref p0, s0, .inl ⟨rfl, _, .of h0⟩, p0, us, y, rfl, rfl, h0, by rw [rx.length]; exact ey, ?_⟩
    · have z := pe_bm0 (X := X) (o := .Name x p2) (apos := apos) (cpos := pos) PySem.F.plainAttrs_list PySem.F.slot_list_pop PySem.F.type_list_pop mt_pop (pe_var (i := i) (by rw [ok.N]; exact hN) (by rw [ok.sc]; exact hv) hd hcd) (hb _) hline
      rw [ok.K] at z
      exact z
    · exact q y F _ (.refl F) (at_.putW e0 s0 (.lst rx.dropLast (by simp; omega))) ry
/-! ### math.comb -/
def rComb : List V → Hp → VK → Prop := fun vs H Q => ∃ a b : Int, vs = [.int a, .int b] ∧ 0 ≤ a ∧ 0 ≤ b ∧ a < 2 ^ 64 ∧ (b ≤ 9000 ∨ a ≤ 18000) ∧ Q (.int (PySem.W.mcComb a b)) H
theorem cr_comb {X : Cx} : CallR X (.builtin "math.comb") rComb := by
  intro pins s σ H vs us Q I r h
  obtain ⟨a, b, rfl, h1, h2, h3, h4, q⟩ := h
  obtain ⟨t, u, rfl⟩ := Vals.int2 r
  exact PySem.W.mc_comb h1 h2 h3 h4 fun _ => ⟨.int _, H, I.tok _, ⟨_, rfl⟩, q⟩
def fComb (ws : List W) : Option W := match ws with
  | [.int a, .int b] => if 0 ≤ a ∧ 0 ≤ b ∧ a ≤ 1000 ∧ b ≤ 1000 then some (.int (PySem.W.mcComb a b)) else none
  | _ => none
theorem c_comb : CbOk S (.builtin "math.comb") fComb := by
  intro Wx B env F σ H ws vs z Q a rv q n
  unfold fComb at q
  split at q
  · split at q
    · rename_i c
      cases q
      cases rv with
      | cons r1 rv =>
        cases rv with
        | cons r2 rv => cases rv; cases r1; cases r2; exact ⟨_, fun X ok => cr_comb, _, _, rfl, c.1, c.2.1, by omega, .inl (by omega), nx_here n a (.int _)⟩
    · cases q
  · cases q
end
end Pv
/-! dict displays, keys of any kind -/
namespace Pv
open PySem PySem.Spec PyProof.Rows L2
def tPuts (D : Addr) : List (V × V) → Hp → (Hp → Prop) → Prop
  | [], H, K => K H
  | (x, y) :: r, H, K => ∃ H', DPutZ H D x y H' ∧ tPuts D r H' K
def tDispX (trs : List (TE × TE)) : TE := fun σ H Q => ∀ p, H p = none → tPairs trs σ (upd H p (.dK [])) fun ps H2 => tPuts p ps H2 fun H3 => Q (.ref p) H3
theorem storeAll_ok {X : Cx} {pins : List (Addr × Obj)} {σ : L2.St} {D : Addr} {K : Hp → Prop} (hu : X.A.units < cLine) : ∀ {ps : List (V × V)} {vs : List (Value × Value)} {H : Hp} {s : Shared}, VV ps vs → Inv X pins σ H s → tPuts D ps H K →
    wpAny (model X.prog X.w) X.A (storeAll D vs) (fun _ s' => ∃ H', Inv X pins σ H' s' ∧ K H') X.xe s
  | _, _, H, s, .nil, I, h => by
    unfold storeAll
    rw [List.forIn_nil]
    exact wpAny_pure ⟨H, I, h⟩
  | _, _, H, s, .cons (a := p) (b := q) hd tl, I, h => by
    obtain ⟨x, y⟩ := p
    obtain ⟨u, v⟩ := q
    obtain ⟨H', g, h'⟩ := h
    unfold storeAll
    rw [List.forIn_cons]
    exact wpAny_bind (wpAny_bind (Pg.d_dictSetXZ hu I g hd.1 hd.2 fun s' I' => wpAny_pure (storeAll_ok hu tl I' h')))
theorem pe_dispX {X : Cx} {pos : Pos} {keys : List (Option Expr)} {values : List Expr} {trs : List (TE × TE)} (hu : X.A.units < cLine) (h : PPs X pos keys values trs) (hall : keys.all (·.isSome) = true) (hl : keys.length = values.length) (h0 : keys ≠ [])
    (h15 : keys.length ≤ 15) : PE X (.Dict keys values pos) (tDispX trs) := by
  refine ⟨fun pins s σ H Q I q => ?_⟩
  have hn := I.hok.fresh (Nat.le_refl s.heap.objs.size)
  have I1 := I.laid (a := s.heap.objs.size) (o := .dK []) (h' := s.heap.push { cls := .type "dict", data := .dict #[] }) (t' := s.toks) (fun _ _ q => Heap.get?_push_of_some _ q) (Nat.le_refl _) (dk_empty s.heap I.big)
  refine wpAny_Dict_any hall hl h0 h15 (thn (h.run pins _ σ _ _ I1 (q _ hn)) fun ws s2 ⟨ps, H2, I2, rel, q2⟩ => ?_)
  exact thn (storeAll_ok hu rel I2 q2) fun _ s3 ⟨H3, I3, q3⟩ => ⟨.ref s.heap.objs.size, H3, I3, rfl, q3⟩
abbrev FP := En → Rs (List (W × W))
def Rps (G : Wo) : Hp → List (W × W) → List (V × V) → Prop := fun F ws ps => Rvs G F (ws.map (·.1)) (ps.map (·.1)) ∧ Rvs G F (ws.map (·.2)) (ps.map (·.2))
def trsOf (S : Ctx) (W : WX) : List (Option Expr) → List Expr → List (TE × TE)
  | some k :: ks, v :: vs => (UE S W k, UE S W v) :: trsOf S W ks vs
  | _, _ => []
theorem pps_of {S : Ctx} {W : WX} {X : Cx} {pos : Pos} (ok : S.Ok W X) : ∀ {ks : List (Option Expr)} {vs : List Expr}, ks.all (·.isSome) = true → ks.length = vs.length → PPs X pos ks vs (trsOf S W ks vs)
  | [], [], _, _ => pps_nil
  | some k :: ks, v :: vs, h, l => pps_cons (ue_pe ok) (ue_pe ok) (pps_of ok (by simpa using h) (by simpa using l))
  | none :: _, _, h, _ => by simp at h
  | [], _ :: _, _, l => by cases l
  | some _ :: _, [], _, l => by cases l
def RP (S : Ctx) (keys : List (Option Expr)) (values : List Expr) (f : FP) : Prop := ∀ (W : WX) B env F σ H (Q : List (V × V) → Hp → Prop), At S B env F σ H → Po S B σ F (Rps S.g) (fun c d H' => W c d σ H') Q (f env) → tPairs (trsOf S W keys values) σ H Q
def fpNil : FP := fun env => .ok [] env
def fpCons (fk fv : FE) (r : FP) : FP := fun env => (fk env).bind fun k e1 => (fv e1).bind fun v e2 => (r e2).bind fun ps e3 => .ok ((k, v) :: ps) e3
def putsD : List (W × W) → List (W × W) → Option (List (W × W))
  | [], acc => some acc
  | (k, v) :: r, acc => if fitK acc k = true ∧ acc.length < sizeLine then putsD r (putD k v acc) else none
def fDisp (f : FP) : FE := fun env => (f env).bind fun ps e1 => match putsD ps [] with
  | some kvs => .ok (.dic kvs) e1
  | none => .bad
section
variable {S : Ctx} {pos : Pos}
theorem rp_nil : RP S [] [] fpNil := fun W B env F σ H Q at_ q => q [] F H (.refl F) at_ ⟨.nil, .nil⟩
theorem rp_cons {k v : Expr} {ks : List (Option Expr)} {vs : List Expr} {fk fv : FE} {r : FP} (hk : RE S k fk) (hv : RE S v fv) (hr : RP S ks vs r) : RP S (some k :: ks) (v :: vs) (fpCons fk fv r) := by
  intro W B env F σ H Q at_ q
  refine hk W B env F σ H _ at_ (Po.bnd q fun kw e1 vk F1 H1 _ l1 a1 r1 q1 => ?_)
  refine hv W B e1 F1 σ H1 _ a1 (Po.bnd q1 fun vw e2 vv F2 H2 _ l2 a2 r2 q2 => ?_)
  refine hr W B e2 F2 σ H2 _ a2 (Po.bnd q2 fun ps e3 vps F3 H3 _ l3 a3 r3 q3 => ?_)
  exact q3 ((vk, vv) :: vps) F3 H3 (.refl _) a3 ⟨.cons (r1.le (l2.trans l3)) r3.1, .cons (r2.le l3) r3.2⟩
theorem puts_ok {B : Fx} {F : Hp} {env : En} {σ : L2.St} {p : Addr} : ∀ {ws : List (W × W)} {ps : List (V × V)} {H : Hp} {u : HO} {acc kvs : List (W × W)} {K : Hp → Prop}, At S B env F σ H → F p = none → B.B p = none → Free env σ p → H p = some u → Rc S.g F (.dic acc) u → Rps S.g F ws ps → putsD ws acc = some kvs →
    (∀ H' u', At S B env F σ H' → H' p = some u' → Rc S.g F (.dic kvs) u' → K H') → tPuts p ps H K
  | [], [], H, u, acc, kvs, K, a, hF, hB, fr, hp, rc, _, e, k => by
    cases e
    exact k H u a hp rc
  | [], _ :: _, _, _, _, _, _, _, _, _, _, _, _, r, _, _ => by cases r.1
  | _ :: _, [], _, _, _, _, _, _, _, _, _, _, _, r, _, _ => by cases r.1
  | (kw, vw) :: ws, (x, y) :: ps, H, u, acc, kvs, K, a, hF, hB, fr, hp, rc, r, e, k => by
    unfold putsD at e
    split at e
    · rename_i c
      obtain ⟨r1, r2⟩ := r
      cases r1 with
      | cons rk r1 =>
        cases r2 with
        | cons rv r2 =>
          obtain ⟨H7, u7, pz, rfl, rc7⟩ := dput_ok a.le hF hp rc rk rv c.1 c.2
          exact ⟨_, pz, puts_ok (a.wr hF hB fr hp rc.mu) hF hB fr upd_same rc7 ⟨r1, r2⟩ e k⟩
    · cases e
theorem rf_disp {keys : List (Option Expr)} {values : List Expr} {f : FP} (h : RP S keys values f) (hall : keys.all (·.isSome) = true := by rfl) (hl : keys.length = values.length := by rfl) (h0 : keys ≠ [] := by intro z; cases z) (h15 : keys.length ≤ 15 := by exact Nat.le_of_ble_eq_true rfl) :
    RF S (.Dict keys values pos) (fDisp f) := by
  intro W B env F σ H Q at_ q
  refine ⟨tDispX (trsOf S W keys values), fun X ok => pe_dispX (by have := ok.room.un; omega) (pps_of ok hall hl) hall hl h0 h15, fun p hp => ?_⟩
  have hFp : F p = none := none_le at_.le hp
  have hBp : B.B p = none := none_le at_.fr hp
  have a0 := (at_.newO hp (.dK [])).push (.dK []) hFp (at_.ne_own hp) upd_same
  have lift : ∀ {r : Rs (List (Pv.W × Pv.W))} {k : List (Pv.W × Pv.W) → En → Rs Pv.W} {Q1 : List (V × V) → Hp → Prop}, PoO S B σ F (fun c d H' => W c d σ H') Q (r.bind k) → (∀ ws e2 vs F2 H2, r = .ok ws e2 → Le F F2 → At S { B with B := upd B.B p (.dK []) } e2 F2 σ H2 → Rps S.g F2 ws vs → PoO S B σ F2 (fun c d H' => W c d σ H') Q (k ws e2) → Q1 vs H2) → Po S { B with B := upd B.B p (.dK []) } σ F (Rps S.g) (fun c d H' => W c d σ H') Q1 r := fun {r k Q1} h hk => by
    cases r with
    | ok ws e2 => exact fun vs F2 H2 l a rv => hk ws e2 vs F2 H2 rfl l a rv (PoO.at_ l h)
    | exc y e2 => exact fun cl d F2 H2 l a rx => h cl d F2 H2 l (a.pop hBp).1 rx
    | bad => exact h
  refine h W _ env F σ _ _ a0 (lift q fun ws e2 vs F2 H2 _ l2 a2 r2 q2 => ?_)
  split at q2
  · rename_i kvs ek
    obtain ⟨b, b1, b2, b3⟩ := a2.pop hBp
    exact puts_ok b b1 hBp b3 b2 (.dK rfl .nil) r2 ek fun H' u' a' hp' rc' => q2 p u' F2 H' (.refl _) a' b1 hBp b3 hp' rc'
  · exact q2.elim
end
end Pv
/-! the values of a dict, walked -/
namespace Pv
open PySem PySem.Spec PyProof.Rows L2
/-- the values of the locked dict at d whose keys are tuples -/
def Itdt (d : Addr) (o : Obj) (kvs : List (List Key × V)) : It :=
  ⟨fun i H => H d = some (.frz o (.dT kvs)) ∧ i < kvs.length, fun i H x H' => H' = H ∧ ∃ k, kvs[i]? = some (k, x), fun i H => H d = some (.frz o (.dT kvs)) ∧ kvs.length ≤ i⟩
section
variable {X : Cx} {pins : List (Addr × Obj)} {σ : L2.St} {H : Hp} {s : Shared} {d : Addr} {o : Obj}
theorem frzTV {kvs : List (List Key × V)} (I : Inv X pins σ H s) (h : H d = some (.frz o (.dT kvs))) :
    (d == sysModules) = false ∧ s.heap.get? d = some o ∧ ∃ (es : Array DictEntry) (ep : Nat), o.data = .dict es ep ∧ s.heap.DictRaw d es ep ∧ es.size = kvs.length ∧
      ∀ (i : Nat) (k : List Key) (v : V), kvs[i]? = some (k, v) → ∃ (en : DictEntry), es[i]? = some en ∧ RelV v en.val := by
  obtain ⟨hd, z, hs, xs, pr, o', es, ep, ho, hx, hdt, he, _⟩ := I.hok d _ h
  rw [hd] at ho
  cases ho
  refine ⟨hs, hd, es, ep, hdt, ⟨_, hd, hx, hdt⟩, ?_, fun i k v e => ?_⟩
  · have l1 : es.size = xs.length := size_of_entries he
    have l2 : kvs.length = xs.length := Paired.length pr
    omega
  · obtain ⟨b, hb, e1, e2, e3⟩ := paired_get pr e
    have q := entry_at he i
    rw [hb] at q
    exact ⟨_, q, e3⟩
end
theorem turn_valsT {P : Program} {w : World} {K : PySem.W.Frag} {tg : Expr} {d : Addr} {o : Obj} {es : Array DictEntry} {ep : Nat} {kvs : List (List Key × V)} (it : Addr) (hod : o.data = .dict es ep) : Turn P w K tg (Itdt d o kvs) [it] it (fun i h => h.IsValIter it d i kvs.length ep) where
  mem := by simp
  obj := fun i h st b hb => by
    have e : b = it := by simpa using hb
    subst e
    obtain ⟨oi, e, c, dd⟩ := st
    exact ⟨oi, e, fun v z => by rw [dd] at z; cases z⟩
  keep := fun i h h' st k => st.at fun oi e => k it (by simp) oi e
  item := by
    intro X hP hw hK hc i pins s σ H E I hf st hg
    subst hP hw hK
    obtain ⟨hd, hi⟩ := hg
    obtain ⟨f0, f1, f2, f3, f4, f5⟩ := hf it (by simp)
    obtain ⟨hs, hgd, es', ep', hdt, raw, hsz, ent⟩ := frzTV I hd
    obtain ⟨rfl, rfl⟩ := dict_ep hod hdt
    obtain ⟨⟨k, v⟩, hkv⟩ : ∃ p, kvs[i]? = some p := ⟨kvs[i], List.getElem?_eq_getElem hi⟩
    obtain ⟨en, hen, rv⟩ := ent i k v hkv
    obtain ⟨hlt, hen'⟩ := Array.getElem?_eq_some_iff.mp hen
    rw [← hsz] at st
    refine wpAny_pyNext_values_item_raw st raw hlt fun h' st' sb => ?_
    have I1 : Inv X pins σ H { s with heap := h' } := I.turned (t' := s.toks) (fun b ob hb e => (sb.2 b hb).trans e) f0 f1 f3 f4 f5
    obtain ⟨oi, e, c, dd⟩ := id st'
    refine ⟨_, rfl, go_of (s := { s with heap := h' }) e c dd (by decide) ⟨v, H, I1, by rw [hen']; exact rv, ⟨rfl, k, hkv⟩, ?_, fun b hb => (hf b hb).1⟩⟩
    show h'.IsValIter it d (i + 1) kvs.length _
    rw [← hsz]
    exact st'
  done := by
    intro X hP hw hK hc i pins s σ H E I hf st hg
    subst hP hw hK
    obtain ⟨hd, hi⟩ := hg
    obtain ⟨f0, f1, f2, f3, f4, f5⟩ := hf it (by simp)
    obtain ⟨hs, hgd, es', ep', hdt, raw, hsz, ent⟩ := frzTV I hd
    obtain ⟨rfl, rfl⟩ := dict_ep hod hdt
    rw [← hsz] at st
    exact wpAny_pyNext_values_end_raw (I.ok.hd hc) st raw (by omega) fun h' eb => ⟨rfl, I.turned (t' := s.toks) (fun b ob hb e => eb b ob hb e) f0 f1 f3 f4 f5⟩
  self := fun A i s Q E st h => wpAny_pyIter_valiter st h
def iValsT (td : TE) : TI := fun σ H R => td σ H fun x H1 => ∃ d o kvs, x = .ref d ∧ H1 d = some (.frz o (.dT kvs)) ∧ R (Itdt d o kvs) H1
theorem pi_valuesT {X : Cx} {tg e : Expr} {apos cpos : Pos} {td : TE} (he : PE X e td) (hbase : attributeBase e "values" X.env (eval e X.env) = eval e X.env) (hline : (apos.endLine == cpos.line) = true) : PI X tg (.Call (.Attribute e "values" apos) [] [] cpos) (iValsT td) := by
  refine ⟨fun pins s σ H R I h => ?_⟩
  refine wpAny_Call_method (T := "dict") (id := "dict.values") hbase rfl hline F.plainAttrs_dict F.slot_dict_values F.type_dict_values (thn (he.run pins s σ H _ I h) fun u s1 ⟨x, H1, I1, rx, d, o, kvs, ex, hd, q⟩ => ?_)
  subst ex
  obtain rfl : u = Value.ref d := rx
  obtain ⟨hs, hgd, es, ep, hdt, raw, hsz, ent⟩ := frzTV I1 hd
  obtain ⟨t1, t2, _⟩ := isD_at I1 (.inr ⟨kvs, .inr ⟨_, hd⟩⟩)
  refine ⟨t1, t2, ?_⟩
  have I2 : Inv X pins σ H1 { s1 with heap := s1.heap.push { cls := .type "dict_values", data := .fields #[.ref d] } } := I1.kept (t' := s1.toks) fun b ob q => Heap.get?_push_of_some _ q
  have fin : wpAny (model X.prog X.w) X.A (pyIter (.ref s1.heap.objs.size)) (PIE X pins σ tg R) X.xe { s1 with heap := s1.heap.push { cls := .type "dict_values", data := .fields #[.ref d] } } := by
    refine wpAny_pyIter_values_raw (d := d) ⟨_, Heap.get?_push_size _ rfl, rfl, rfl⟩ (raw.at fun o e => Heap.get?_push_of_some _ e) (pi_one (tk := s1.toks) I2 _ (turn_valsT _ hdt) ⟨_, Heap.get?_push_size _ rfl, rfl, ?_⟩ q)
    rw [hsz] <;> rfl
  show wpAny _ _ (callWith cpos (.builtin "dict.values") [.ref d] [] []) _ X.xe s1
  exact method_meetsIn F.slot_dict_values F.entry_dict_values rfl (PySem.evalArgs_none ⟨rfl, t1, F.args_dict_values_1 _, _, meets_dict_values_raw d hs, ⟨es, ep, raw⟩, fin⟩)
section
variable {S : Ctx} {B : Fx} {σ : L2.St} {F : Hp}
theorem rsrc_vals {p : Addr} {ob : Obj} {kvs : List (W × W)} {hk : List (Key × V)} (h : F p = some (.frz ob (.dK hk))) (r : Rvs S.g F (kvs.map (·.2)) (hk.map (·.2))) : RSrc S B σ F (kvs.map (·.2)) (Itd p ob hk) := by
  intro B' env F' σ' H' l a i
  have h' := a.le _ _ (l _ _ h)
  have hl : hk.length = kvs.length := by simpa using r.length
  refine ⟨fun z => ⟨h', by have := List.getElem?_eq_none_iff.mp z; simp at this; omega⟩, fun w z => ?_⟩
  obtain ⟨v, hv, rv⟩ := r.get z
  have hi : i < hk.length := by
    have := (List.getElem?_eq_some_iff.mp hv).1
    simpa using this
  refine ⟨⟨h', hi⟩, fun x H2 y => ?_⟩
  obtain ⟨y1, k', y2⟩ := y
  subst y1
  rw [List.getElem?_map, y2] at hv
  cases hv
  exact ⟨F', .refl _, a, rv.le l, fun _ _ z => z⟩
theorem rsrc_valsT {p : Addr} {ob : Obj} {kvs : List (W × W)} {hk : List (List Key × V)} (h : F p = some (.frz ob (.dT hk))) (r : Rvs S.g F (kvs.map (·.2)) (hk.map (·.2))) : RSrc S B σ F (kvs.map (·.2)) (Itdt p ob hk) := by
  intro B' env F' σ' H' l a i
  have h' := a.le _ _ (l _ _ h)
  have hl : hk.length = kvs.length := by simpa using r.length
  refine ⟨fun z => ⟨h', by have := List.getElem?_eq_none_iff.mp z; simp at this; omega⟩, fun w z => ?_⟩
  obtain ⟨v, hv, rv⟩ := r.get z
  have hi : i < hk.length := by
    have := (List.getElem?_eq_some_iff.mp hv).1
    simpa using this
  refine ⟨⟨h', hi⟩, fun x H2 y => ?_⟩
  obtain ⟨y1, k', y2⟩ := y
  subst y1
  rw [List.getElem?_map, y2] at hv
  cases hv
  exact ⟨F', .refl _, a, rv.le l, fun _ _ z => z⟩
def fVals (f : FE) : FI := fun env => (f env).bind fun x e1 => match x with
  | .dic kvs => .ok (kvs.map (·.2)) e1
  | _ => .bad
theorem ri_vals {tg e : Expr} {f : FE} {apos pos : Pos} (ha : RE S e f) (hb : ∀ env : Env, attributeBase e "values" env (eval e env) = eval e env := by intro _; rfl) (hline : (apos.endLine == pos.line) = true := by rfl) : RI S tg (.Call (.Attribute e "values" apos) [] [] pos) (fVals f) := by
  intro W B env F σ H R at_ q
  by_cases hd : ∃ kvs e1, f env = .ok (.dic kvs) e1 ∧ kindD kvs = true
  · obtain ⟨kvs, e1, ef, kd⟩ := hd
    refine ⟨iValsT (UE S W e), fun X ok => pi_valuesT (ue_pe ok) (hb _) hline, ha W B env F σ H _ at_ (Po.bnd q fun x e2 v F1 H1 ex l1 a1 r1 q1 => ?_)⟩
    rw [ef] at ex
    cases ex
    cases r1 with
    | dK h e rs =>
      rw [kind_dK e] at kd
      cases kd
    | dT ne h e rs => exact ⟨_, _, _, rfl, a1.le _ _ h, q1 _ F1 H1 (.refl _) a1 (rsrc_valsT h rs)⟩
  · refine ⟨iVals (UE S W e), fun X ok => pi_values (ue_pe ok) (hb _) hline, ha W B env F σ H _ at_ (Po.bnd q fun x e2 v F1 H1 ex l1 a1 r1 q1 => ?_)⟩
    split at q1
    · rename_i kvs _ex
      cases r1 with
      | dK h e rs => exact ⟨_, _, _, rfl, a1.le _ _ h, q1 _ F1 H1 (.refl _) a1 (rsrc_vals h rs)⟩
      | dT ne h e rs => exact absurd ⟨_, _, ex, kind_dT e ne⟩ hd
    · exact q1.elim
end
end Pv
/-! sorted -/
namespace Pv
open PySem PySem.Spec PyProof.Rows L2 SrtO
section
variable {prog : Program} {w : World} {A : Around} {E : Value → Shared → Prop} {s : Shared}
theorem collect_tuple {l : Addr} {vs : List Value} {Q : List Value → Shared → Prop} (hl : s.heap.IsTuple l vs.toArray)
    (h : Q vs { s with heap := (s.heap.push (seqObj "list" #[] 0)).update s.heap.objs.size (Obj.mapSeq (· ++ vs.toArray)) }) (hsz : vs.length ≤ sizeLine) :
    wpAny (model prog w) A (collect (.ref l)) Q E s := by
  obtain ⟨o, ho, hc, n, hd⟩ := id hl
  unfold collect
  refine wpAny_bind (wpAny_runValue (codeAny_builtin entry_proto_collect' ?_))
  show wpAny _ _ (do again (.builtin "list.__iadd__" ⟨[← newList [], .ref l], []⟩)) _ _ s
  refine wpAny_bind (wpAny_newList (wpAny_pure ⟨Code.quiet_builtin _ (by decide +kernel), codeAny_builtin entry_list_iadd' ?_⟩))
  show wpAny _ _ (Builtin.List.listExtendWith (.ref s.heap.objs.size) (.ref l) (.ref s.heap.objs.size)) _ _ { s with heap := s.heap.push (seqObj "list" #[] 0) }
  unfold Builtin.List.listExtendWith
  have ho' : (s.heap.push (seqObj "list" #[] 0)).get? l = some o := Heap.get?_push_of_some _ ho
  refine wpAny_bind (wpAny_typeOf (T := "tuple") ⟨o, ho', hc⟩ ?_)
  have ht : (Value.type "tuple" == Value.type "tuple") = true := by rfl
  rw [if_pos (by rw [ht]; simp)]
  refine wpAny_bind (listItems_at ho' hd ?_)
  refine wpAny_bind (listItems_at (xs := #[]) (n := 0) (Heap.get?_push_size _ rfl) rfl ?_)
  rw [if_neg (by simp)]
  refine wpAny_bind (listUpdate_at (xs := #[]) (n := 0) (Heap.get?_push_size _ rfl) rfl ?_ (Nat.zero_le _) (by show (#[] ++ vs.toArray).size ≤ sizeLine + 1; simp only [Array.size_append, List.size_toArray, List.length_nil]; omega))
  refine wpAny_pure ?_
  show wpAny (model prog w) A (do
      let o ← load s.heap.objs.size
      match o.data with
      | .seq xs _ => pure xs.toList
      | _ => unsupported "internal:collect") Q E { s with heap := (s.heap.push (seqObj "list" #[] 0)).update s.heap.objs.size (Obj.mapSeq (· ++ vs.toArray)) }
  refine wpAny_bind (wpAny_load (get?_update_seq (Heap.get?_push_size _ rfl) _) ?_)
  show wpAny _ _ (pure ((#[] : Array Value) ++ vs.toArray).toList) Q E _
  rw [show ((#[] : Array Value) ++ vs.toArray).toList = vs by simp]
  exact wpAny_pure h
theorem sorted_ordT {l : Addr} {vs : List Value} {ltv : Value → Value → Bool} {Q : Value → Shared → Prop} (O : Swo ltv) (hl : s.heap.IsTuple l vs.toArray) (hz : vs.length ≤ sizeLine)
    (hS : 2 ≤ vs.length → ∀ (h₁ : Heap) (a : Addr), h₁.get? a = some (seqObj "list" vs.toArray 0) → (∀ b o, s.heap.get? b = some o → b ≠ a ∧ h₁.get? b = some o) → SortableO prog w A.in1.in1 { s with heap := h₁ } a vs ltv)
    (h : ∀ out : List Value, Srtd ltv out → Stb ltv out vs → Q (.ref (s.heap.objs.size + 1)) { s with heap := sortedAll s.heap vs out.toArray }) :
    wpAny (model prog w) A (call (.builtin "sorted") [.ref l]) Q E s := by
  refine Calls.call_function_entry kind_sorted plain_sorted entry_sorted (args_sorted1 _) ?_
  unfold Builtin.«sorted»
  refine wpAny_bind (m := checkCount "sorted" 1 1 _) (wpAny_pure ?_)
  refine wpAny_bind (collect_tuple hl ?_ hz)
  refine wpAny_bind (wpAny_newList ?_ hz)
  have hsz : ((s.heap.push (seqObj "list" #[] 0)).update s.heap.objs.size (Obj.mapSeq (· ++ vs.toArray))).objs.size = s.heap.objs.size + 1 := by
    rw [Heap.size_update, size_push']
  have hoL : (((s.heap.push (seqObj "list" #[] 0)).update s.heap.objs.size (Obj.mapSeq (· ++ vs.toArray))).push (seqObj "list" vs.toArray 0)).get? (s.heap.objs.size + 1) = some (seqObj "list" vs.toArray 0) := by
    rw [← hsz]; exact Heap.get?_push_size _ rfl
  have keep : ∀ b o, s.heap.get? b = some o → b ≠ s.heap.objs.size + 1 ∧ (((s.heap.push (seqObj "list" #[] 0)).update s.heap.objs.size (Obj.mapSeq (· ++ vs.toArray))).push (seqObj "list" vs.toArray 0)).get? b = some o := fun b o q => by
    have hlt : b < s.heap.objs.size := Heap.lt_size q
    refine ⟨Nat.ne_of_lt (Nat.lt_succ_of_lt hlt), Heap.get?_push_of_some _ ?_⟩
    rw [Heap.get?_update_ne _ _ _ _ (Nat.ne_of_lt hlt)]
    exact Heap.get?_push_of_some _ q
  show wpAny _ _ _ _ _ { s with heap := ((s.heap.push (seqObj "list" #[] 0)).update s.heap.objs.size (Obj.mapSeq (· ++ vs.toArray))).push (seqObj "list" vs.toArray 0) }
  rw [hsz]
  refine wpAny_bind (wpAny_holding (wpAny_call_entry slot_list_sort ⟨_, hoL, rfl⟩ entry_list_sort (list_sort_ord O hoL hz (fun h2 => hS h2 _ _ hoL keep) fun out hs hb => ⟨_, rfl, ?_⟩) (args_list_sort _)))
  exact wpAny_pure ⟨_, rfl, h out hs hb⟩
end
/-- sorted(t), a tuple of ints -/
def rSortedIT (K : PySem.W.Frag) : List V → Hp → VK → Prop := fun vs H Q => ∃ (a : Addr) (ns : List Int), vs = [V.ref a] ∧ SqT K H a (ns.map V.int) ∧
  ∀ (ns' : List Int) (p : Addr), ns'.Perm ns → ns'.Pairwise (· ≤ ·) → H p = none → Q (.ref p) (upd H p (.lst (ns'.map V.int)))
theorem cr_sortedIT {X : Cx} : CallR X (.builtin "sorted") (rSortedIT X.K) := by
  intro pins s σ H vs us Q I r h
  obtain ⟨a, ns, rfl, hs, q⟩ := h
  obtain ⟨its, rv, hl, hz⟩ := I.tuple hs
  rw [Vals.ref1 r]
  have hi := rv.ints
  refine sorted_ordT SrtO.swo_int hl (by rw [← rv.length]; exact hz) (fun h2 h₁ a' _ _ => SrtO.ints_sortable hi h2) fun out h1 h2 => ?_
  obtain ⟨k1, k2, k3⟩ := SrtO.ints_out hi h1 h2
  obtain ⟨ep, he'⟩ := PyProof.Rows.sortedAll_at s.heap its out.toArray
  have hlen : ((out.map SrtO.iv).map V.int).length ≤ sizeLine := by
    rw [List.length_map, k2.length_eq]
    rw [List.length_map] at hz
    exact hz
  exact ⟨.ref _, upd H (s.heap.objs.size + 1) (.lst ((out.map SrtO.iv).map V.int)), I.laid (t' := s.toks) (fun _ _ => PyProof.Rows.sortedAll_old) (Nat.le_succ _) ⟨hlen, out, ep, vals_of_ints k1, he'⟩, rfl, q _ _ k2 k3 (I.hok.fresh (Nat.le_succ _))⟩
/-! ### in order -/
def insI (x : Int) : List Int → List Int
  | [] => [x]
  | y :: r => if x ≤ y then x :: y :: r else y :: insI x r
def isort : List Int → List Int
  | [] => []
  | x :: r => insI x (isort r)
theorem insI_perm (x : Int) : ∀ l : List Int, (insI x l).Perm (x :: l)
  | [] => .refl _
  | y :: r => by
    unfold insI
    split
    · exact .refl _
    · exact ((insI_perm x r).cons y).trans (.swap x y r)
theorem insI_srt (x : Int) : ∀ {l : List Int}, l.Pairwise (· ≤ ·) → (insI x l).Pairwise (· ≤ ·)
  | [], _ => List.pairwise_singleton _ _
  | y :: r, h => by
    unfold insI
    have h' := List.pairwise_cons.mp h
    split
    · rename_i c
      refine List.pairwise_cons.mpr ⟨fun z hz => ?_, h⟩
      rcases List.mem_cons.mp hz with rfl | hz
      · exact c
      · exact Int.le_trans c (h'.1 z hz)
    · rename_i c
      refine List.pairwise_cons.mpr ⟨fun z hz => ?_, insI_srt x h'.2⟩
      rcases List.mem_cons.mp ((insI_perm x r).mem_iff.mp hz) with rfl | hz
      · omega
      · exact h'.1 z hz
theorem isort_perm : ∀ l : List Int, (isort l).Perm l
  | [] => .refl _
  | x :: r => (insI_perm x _).trans ((isort_perm r).cons x)
theorem isort_srt : ∀ l : List Int, (isort l).Pairwise (· ≤ ·)
  | [] => .nil
  | x :: r => insI_srt x (isort_srt r)
theorem isort_eq {l m : List Int} (p : m.Perm l) (h : m.Pairwise (· ≤ ·)) : m = isort l := List.Perm.eq_of_pairwise (fun a b _ _ h1 h2 => Int.le_antisymm h1 h2) h (isort_srt l) (p.trans (isort_perm l).symm)
def iW3 : List W → Option (List Int)
  | [] => some []
  | .int i :: r => (iW3 r).map (i :: ·)
  | _ => none
theorem iW3_rv {G : Wo} {F : Hp} : ∀ {ws : List W} {vs : List V} {is : List Int}, Rvs G F ws vs → iW3 ws = some is → vs = is.map V.int
  | [], _, _, r, e => by cases e; cases r; rfl
  | w :: ws, _, _, r, e => by
    cases r with
    | cons h r =>
      cases w <;> simp [iW3] at e
      obtain ⟨js, e1, rfl⟩ := e
      cases h
      rw [iW3_rv r e1]
      rfl
/-- sorted: ints in a list, a tuple -/
def fSorted (ws : List W) : Option W := match ws with
  | [.tup xs] => (iW3 xs).map fun is => .lst ((isort is).map .int)
  | [.lst xs] => (iW3 xs).map fun is => .lst ((isort is).map .int)
  | [.dic kvs] => match iW3 (kvs.map (·.1)) with
    | some is => if is.length < 64 then some (.lst ((isort is).map .int)) else none
    | none => none
  | _ => none
theorem iW3_map : ∀ {ws : List W} {is : List Int}, iW3 ws = some is → ws = is.map .int
  | [], _, e => by cases e; rfl
  | w :: ws, _, e => by
    cases w <;> simp [iW3] at e
    obtain ⟨js, e1, rfl⟩ := e
    rw [iW3_map e1]
    rfl
theorem kW_ints : ∀ {ks : List Key} {is : List Int}, is.map W.int = ks.map kW → ks = is.map Sum.inl
  | [], [], _ => rfl
  | [], _ :: _, e => by cases e
  | _ :: _, [], e => by cases e
  | k :: ks, i :: is, e => by
    simp only [List.map_cons, List.cons.injEq] at e
    cases k with
    | inl j =>
      have : i = j := by have := e.1; simpa [kW] using this
      rw [kW_ints e.2, this]
      rfl
    | inr x => have := e.1; simp [kW] at this
section
variable {S : Ctx}
theorem rvs_ints {G : Wo} {F : Hp} : ∀ ns : List Int, Rvs G F (ns.map .int) (ns.map V.int)
  | [] => .nil
  | i :: ns => .cons (.int i) (rvs_ints ns)
theorem c_sorted : CbOk S (.builtin "sorted") fSorted := by
  intro Wx B env F σ H ws vs z Q a rv q n
  unfold fSorted at q
  split at q
  · rw [Option.map_eq_some_iff] at q
    obtain ⟨is, e, rfl⟩ := q
    cases rv with
    | cons h t =>
      cases t
      cases h with
      | tup hs hr =>
        have ev := iW3_rv hr e
        subst ev
        exact ⟨rSortedIT S.g.K, fun X ok => by have z := @cr_sortedIT X; rw [ok.K] at z; exact z, _, is, rfl, .of (a.le _ _ hs), fun ns' p h1 h2 hp => by rw [isort_eq h1 h2]; exact nx_lst n a (rvs_ints _) hp⟩
  · rw [Option.map_eq_some_iff] at q
    obtain ⟨is, e, rfl⟩ := q
    cases rv with
    | cons h t =>
      cases t
      cases h with
      | lst hs hr =>
        have ev := iW3_rv hr e
        subst ev
        exact ⟨rSortedI S.g.K, fun X ok => by have z := @cr_sortedI X; rw [ok.K] at z; exact z, _, is, rfl, .of (a.le _ _ hs), fun ns' p h1 h2 hp => by rw [isort_eq h1 h2]; exact nx_lst n a (rvs_ints _) hp⟩
  · split at q
    · rename_i is e
      split at q
      · rename_i h64
        cases q
        have em := iW3_map e
        cases rv with
        | cons h t =>
          cases t
          cases h with
          | @dK kvs ad ob hk hf ek rs =>
            rw [em] at ek
            have ek' : is.map W.int = (hk.map (·.1)).map kW := by rw [ek, List.map_map]; rfl
            have e2 := kW_ints ek'
            exact ⟨_, fun X ok => call_sortedDI ok.calm, ad, hk, is, rfl, .inr ⟨_, a.le _ _ hf⟩, e2, h64, fun ys p h1 h2 hp => by rw [isort_eq h1 h2]; exact nx_lst n a (rvs_ints _) hp⟩
          | @dT kvs ad ob hk ne hf ek rs =>
            rw [em] at ek
            cases is with
            | nil => exact absurd (by simpa using em) ne
            | cons i is =>
              cases hk with
              | nil => cases ek
              | cons q r => simp [tW] at ek
      · cases q
    · cases q
  · cases q
end
end Pv
/-! lists and tuples of ranges -/
namespace Pv
open PySem PySem.Spec PyProof.Rows L2
def rI : Int → Nat → List Int
  | _, 0 => []
  | lo, n + 1 => lo :: rI (lo + 1) n
theorem rI_len : ∀ (lo : Int) (n : Nat), (rI lo n).length = n
  | _, 0 => rfl
  | lo, n + 1 => by simp [rI, rI_len (lo + 1) n]
theorem rI_get : ∀ (lo : Int) (n i : Nat), i < n → (rI lo n)[i]? = some (lo + (i : Int))
  | _, 0, i, h => by omega
  | lo, n + 1, 0, _ => by simp [rI]
  | lo, n + 1, i + 1, h => by
    simp only [rI, List.getElem?_cons_succ, rI_get (lo + 1) n i (by omega)]
    congr 1
    omega
theorem items_ints {lo : Int} {n : Nat} {acc : Array Value} (h : ItemsOf (fun i v => ∃ t, v = .int (lo + (i : Int) * 1) t) acc n) : IntsAre acc.toList (rI lo n) :=
  ints_each (by rw [Array.length_toList, rI_len]; exact h.1) fun j v e => by
    have hj : j < n := by
      have := (List.getElem?_eq_some_iff.mp e).1
      rw [Array.length_toList, h.1] at this
      exact this
    obtain ⟨t, ev⟩ := h.2 j v (by rw [← Array.getElem?_toList]; exact e)
    exact ⟨_, t, rI_get lo n j hj, by rw [ev, Int.mul_one]⟩
def rLstRg : List V → Hp → VK → Prop := fun xs H Q => ∃ (a : Addr) (lo hi : Int), xs = [V.ref a] ∧ H a = some (.rng lo hi) ∧ -r62 ≤ lo ∧ lo < r62 ∧ -r62 ≤ hi ∧ hi < r62 ∧ (hi - lo).toNat ≤ 1000 ∧ ∀ p, H p = none → Q (.ref p) (upd H p (.lst ((rI lo (hi - lo).toNat).map V.int)))
def rTupRg : List V → Hp → VK → Prop := fun xs H Q => ∃ (a : Addr) (lo hi : Int), xs = [V.ref a] ∧ H a = some (.rng lo hi) ∧ -r62 ≤ lo ∧ lo < r62 ∧ -r62 ≤ hi ∧ hi < r62 ∧ (hi - lo).toNat ≤ 1000 ∧ ∀ p, H p = none → Q (.ref p) (upd H p (.tup ((rI lo (hi - lo).toNat).map V.int)))
theorem cr_lstRg {X : Cx} (hc : X.calm = true) : CallR X (.type "list") rLstRg := by
  intro pins s σ H xs us Q I r h
  obtain ⟨a, lo, hi, rfl, ha, h1, h2, h3, h4, h5, q⟩ := h
  rw [Vals.ref1 r]
  obtain ⟨t, u, v, hr⟩ := I.hok a _ ha
  have hn : Builtin.Range.rangeSize lo hi 1 = (((hi - lo).toNat : Nat) : Int) := by
    rw [rangeSize_one]
    split <;> omega
  refine call_list_range (n := (hi - lo).toNat) (I.ok.hd hc) hr (small_one h1 h2 h3 h4) hn (by omega) fun h' tk acc c k hl hit => ?_
  have hv := vals_of_ints (items_ints hit)
  exact ⟨.ref s.heap.objs.size, _, I.laid (t' := tk) k (Nat.le_refl _) (show ObjOk X.prog X.w _ _ _ (.lst ((rI lo (hi - lo).toNat).map V.int)) from ⟨by rw [List.length_map, rI_len, sizeLine_eq]; omega, acc.toList, c, hv, by rw [Array.toArray_toList]; exact hl⟩), rfl, q _ (I.hok.fresh (Nat.le_refl _))⟩
theorem cr_tupRg {X : Cx} (hc : X.calm = true) : CallR X (.type "tuple") rTupRg := by
  intro pins s σ H xs us Q I r h
  obtain ⟨a, lo, hi, rfl, ha, h1, h2, h3, h4, h5, q⟩ := h
  rw [Vals.ref1 r]
  obtain ⟨t, u, v, hr⟩ := I.hok a _ ha
  have hn : Builtin.Range.rangeSize lo hi 1 = (((hi - lo).toNat : Nat) : Int) := by
    rw [rangeSize_one]
    split <;> omega
  refine call_tuple_range (n := (hi - lo).toNat) (I.ok.hd hc) hr (small_one h1 h2 h3 h4) hn (by omega) fun h' tk acc k hit => ?_
  have hv := vals_of_ints (items_ints hit)
  have I1 : Inv X pins σ H { s with heap := h', toks := tk } := I.kept (t' := tk) k
  have I2 := I1.laid (t' := tk) (a := h'.objs.size) (o := .tup ((rI lo (hi - lo).toNat).map V.int)) (h' := h'.push { cls := .type "tuple", data := .seq acc }) (fun b o e => Heap.get?_push_of_some _ e) (Nat.le_refl _)
    (show ObjOk X.prog X.w _ _ _ (.tup ((rI lo (hi - lo).toNat).map V.int)) from ⟨by rw [List.length_map, rI_len, sizeLine_eq]; omega, acc.toList, hv, by have z := IsTup.new h' acc.toList.toArray; rw [Array.toArray_toList] at z ⊢; exact z⟩)
  exact ⟨.ref h'.objs.size, _, I2, rfl, q _ (I1.hok.fresh (Nat.le_refl _))⟩
def rgOk (lo hi : Int) : Bool := decide (-r62 ≤ lo ∧ lo < r62 ∧ -r62 ≤ hi ∧ hi < r62 ∧ (hi - lo).toNat ≤ 1000)
def fList2 (ws : List W) : Option W := match ws with
  | [.rg lo hi] => if rgOk lo hi = true then some (.lst ((rI lo (hi - lo).toNat).map .int)) else none
  | ws => fListOf ws
def fTuple2 (ws : List W) : Option W := match ws with
  | [.rg lo hi] => if rgOk lo hi = true then some (.tup ((rI lo (hi - lo).toNat).map .int)) else none
  | ws => fTupleOf ws
section
variable {S : Ctx}
theorem c_list2 : CbOk S (.type "list") fList2 := by
  intro Wx B env F σ H ws vs z Q a rv q n
  unfold fList2 at q
  split at q
  · split at q
    · rename_i c
      cases q
      have c' := of_decide_eq_true c
      cases rv with
      | cons h t =>
        cases t
        cases h with
        | rg hr => exact ⟨rLstRg, fun X ok => cr_lstRg ok.calm, _, _, _, rfl, a.le _ _ hr, c'.1, c'.2.1, c'.2.2.1, c'.2.2.2.1, c'.2.2.2.2, fun p hp => nx_lst n a (rvs_ints _) hp⟩
    · cases q
  · exact c_listOf Wx B env F σ H _ vs z Q a rv q n
theorem c_tuple2 : CbOk S (.type "tuple") fTuple2 := by
  intro Wx B env F σ H ws vs z Q a rv q n
  unfold fTuple2 at q
  split at q
  · split at q
    · rename_i c
      cases q
      have c' := of_decide_eq_true c
      cases rv with
      | cons h t =>
        cases t
        cases h with
        | rg hr => exact ⟨rTupRg, fun X ok => cr_tupRg ok.calm, _, _, _, rfl, a.le _ _ hr, c'.1, c'.2.1, c'.2.2.1, c'.2.2.2.1, c'.2.2.2.2, fun p hp => nx_tup n a (rvs_ints _) hp⟩
    · cases q
  · exact c_tupleOf Wx B env F σ H _ vs z Q a rv q n
end
end Pv
/-! tuple(d), list(d): the keys -/
namespace L2
open PySem PySem.Spec PyProof.Rows
section
variable {prog : Program} {w : World} {A : Around} {E : Value → Shared → Prop} {s : Shared} {r d : Addr} {n : Nat} {P : Nat → Value → Prop} {OK : Heap → Prop}
theorem code_tuple_new_src {Q₁ : Value → Shared → Prop} (K : PySem.W.KdlSrc prog w "dict" r d n P OK) (hh : A.handled = none) (hok : OK s.heap) (hn : n ≤ sizeLine)
    (h : ∀ (h' : Heap) (tk : Nat) (acc : Array Value), (∀ b o, s.heap.get? b = some o → h'.get? b = some o) → ItemsOf P acc n →
      Q₁ (.ref h'.objs.size) { s with heap := h'.push { cls := .type "tuple", data := .seq acc }, toks := tk }) :
    codeAny (model prog w) A (.call (.builtin "tuple.__new__") ⟨[.type "tuple", .ref r], []⟩) (wants Q₁ E) s := by
  refine codeAny_of_tree ?_
  show wpAny _ A.in1 (do checkBuiltinCall "tuple.__new__" ⟨[.type "tuple", .ref r], []⟩; again (.builtin "tuple.__new__" ⟨[.type "tuple", .ref r], []⟩)) _ _ s
  refine wpAny_bind (wpAny_of_eq (F.newCall_tuple_1 _) (wpAny_pure ⟨plainId_quiet F.plain_tuple_new _, codeAny_builtin F.entry_tuple_new ?_⟩))
  rw [Around.under_plainId F.plain_tuple_new _]
  have hsub := sub_tuple_self
  have hinit := init_tuple_lookup
  have hmh := madeHere_tuple
  have hTI : s.TypeIs (.ref r) "dict" := K.type s hok
  have hh1 : A.in1.handled = none := hh
  wp_walk using wpAny_typeOf hTI, PySem.W.kdu_collect (A := A.in1) K hh1 hok hn
  intro h' tk acc hk hacc
  show wpAny _ _ (Builtin.Tuple.tupleExact acc.toList.toArray >>= fun v => ret v) _ _ _
  unfold Builtin.Tuple.tupleExact
  refine wpAny_bind (wpAny_newObj_type ?_ (by show acc.toList.toArray.size ≤ sizeLine; simp only [Array.toArray_toList]; rw [hacc.1]; exact hn))
  refine wpAny_pure ?_
  have e : acc.toList.toArray = acc := by simp
  rw [e]
  exact h h' tk acc hk hacc
theorem call_tuple_src {Q : Value → Shared → Prop} (K : PySem.W.KdlSrc prog w "dict" r d n P OK) (hh : A.handled = none) (hok : OK s.heap) (hn : n ≤ sizeLine)
    (hQ : ∀ (h' : Heap) (tk : Nat) (acc : Array Value), (∀ b o, s.heap.get? b = some o → h'.get? b = some o) → ItemsOf P acc n →
      Q (.ref h'.objs.size) { s with heap := h'.push { cls := .type "tuple", data := .seq acc }, toks := tk }) :
    wpAny (model prog w) A (call (.type "tuple") [.ref r]) Q E s := by
  refine callType_codes (Q₁ := fun obj s₁ => s₁.TypeIs obj "tuple" ∧ Q obj s₁) F.called_tuple (F.typeCall_tuple_1 _) F.entry_object_init
    (code_tuple_new_src (A := A.in1) K hh hok hn fun h' tk acc hk hacc => ⟨⟨_, Heap.get?_push_size _ rfl, rfl⟩, hQ h' tk acc hk hacc⟩) fun obj s₁ h₁ => ?_
  exact ⟨h₁.1, F.args_object_init_2 obj _, object_init_meets F.called_tuple.init.lookup F.called_tuple.made (by decide) prog w A.in1 _ s₁ ⟨h₁.1, rfl, h₁.2⟩⟩
end
section
variable {X : Cx}
/-- what is collected of a dict whose keys are tuples -/
theorem keys_dT {pins : List (Addr × Obj)} {σ : L2.St} {H : Hp} {s : Shared} {d : Addr} {kvs : List (List Key × V)} (I : Inv X pins σ H s) (hd : Rd H d (.dT kvs)) : ∃ (o : Obj) (es : Array DictEntry) (ep : Nat), (d == sysModules) = false ∧ o.ExactDict ∧ o.data = .dict es ep ∧ s.heap.get? d = some o ∧ es.size ≤ sizeLine ∧
    ∀ acc : Array Value, ItemsOf (fun i v => ∃ en : DictEntry, es[i]? = some en ∧ v = en.key) acc es.size → ∃ bs : List Addr, IsKeys H kvs bs ∧ acc.toList = bs.map Value.ref ∧ bs.length ≤ sizeLine := by
  obtain ⟨z, hs, ks, pr, o, es, ep, ho, hx, hdt, he, hn⟩ := (show ObjOk X.prog X.w H s.heap d (.dT kvs) from hd.ok I.hok)
  have l1 : es.size = ks.length := size_of_entries he
  have l2 : kvs.length = ks.length := Paired.length pr
  refine ⟨o, es, ep, hs, hx, hdt, ho, by omega, fun acc' it => ⟨_, isKeys_of pr, ?_, by rw [List.length_map]; omega⟩⟩
  have ea : acc'.toList = ks.map fun x => Value.ref x.2.1 := by
    have hl : acc'.toList.length = ks.length := by rw [Array.length_toList, it.1]; exact l1
    apply List.ext_getElem?
    intro j
    rw [List.getElem?_map]
    cases hj : acc'.toList[j]? with
    | none =>
      have h1 := List.getElem?_eq_none_iff.mp hj
      rw [List.getElem?_eq_none (by omega)]
      all_goals rfl
    | some v =>
      obtain ⟨en, hen, hv⟩ := it.2 j v (by rw [← Array.getElem?_toList]; exact hj)
      have qe := entry_at he j
      rw [hen] at qe
      cases hb : ks[j]? with
      | none =>
        rw [hb] at qe
        exact nomatch (show some en = none from qe)
      | some b =>
        rw [hb] at qe
        have e2 : en = entryOfKey (tupleKind (mixKind X.prog X.w)) b := Option.some.inj qe
        rw [hv, e2]
        all_goals rfl
  rw [ea, List.map_map]
  all_goals rfl
theorem cr_tupleD (hc : X.calm = true) : CallR X (.type "tuple") (fun xs H Q => (∃ d kvs, xs = [V.ref d] ∧ Rd H d (.dT kvs) ∧ ∀ p bs, H p = none → IsKeys H kvs bs → Q (.ref p) (upd H p (.tup (bs.map V.ref)))) ∨
    ∃ d kvs, xs = [V.ref d] ∧ Rd H d (.dK kvs) ∧ ∀ p, H p = none → Q (.ref p) (upd H p (.tup (kvs.map fun kv => kV kv.1)))) := by
  intro pins s σ H xs us Q I r h
  rcases h with ⟨d, kvs, rfl, hd, q⟩ | ⟨d, kvs, rfl, hd, q⟩
  · rw [Vals.ref1 r]
    obtain ⟨o, es, ep, hs, hx, hdt, ho, hz, get⟩ := keys_dT I hd
    refine call_tuple_src (kdl_raw hs hx hdt) (I.ok.hd hc) ho hz fun h' tk acc k it => ?_
    obtain ⟨bs, hb, ea, hl⟩ := get acc it
    have I1 : Inv X pins σ H { s with heap := h', toks := tk } := I.kept (t' := tk) k
    have I2 := I1.laid (t' := tk) (a := h'.objs.size) (o := .tup (bs.map V.ref)) (h' := h'.push { cls := .type "tuple", data := .seq acc }) (fun b o e => Heap.get?_push_of_some _ e) (Nat.le_refl _)
      (show ObjOk X.prog X.w _ _ _ (.tup (bs.map V.ref)) from ⟨by rw [List.length_map]; exact hl, acc.toList, by rw [ea]; exact vals_refs _, by have z := IsTup.new h' acc.toList.toArray; rw [Array.toArray_toList] at z ⊢; exact z⟩)
    exact ⟨.ref h'.objs.size, _, I2, rfl, q _ bs (I1.hok.fresh (Nat.le_refl _)) hb⟩
  · rw [Vals.ref1 r]
    obtain ⟨z, lo, vs, rel, dd⟩ := dk_rd I.hok hd
    obtain ⟨ep, hat⟩ := dd.dictAt
    have ek : (kvs.map fun kv => kV kv.1) = vs.map fun p => kV p.1 := by
      have e := congrArg (List.map kV) rel.keys
      rw [List.map_map, List.map_map] at e
      exact e
    refine call_tuple_src (PySem.W.kdl_dict (knd := mixKind X.prog X.w) (kvs := vs) (ep := ep) lo) (I.ok.hd hc) hat (by rw [← rel.length]; exact z) fun h' tk acc k hacc => ?_
    have hv : Vals (vs.map fun p => kV p.1) acc.toList := keys_at (by rw [Array.length_toList]; exact hacc.1) fun j v e => hacc.2 j v (by rw [← Array.getElem?_toList]; exact e)
    have I1 : Inv X pins σ H { s with heap := h', toks := tk } := I.kept (t' := tk) k
    have I2 := I1.laid (t' := tk) (a := h'.objs.size) (o := .tup (kvs.map fun kv => kV kv.1)) (h' := h'.push { cls := .type "tuple", data := .seq acc }) (fun b o e => Heap.get?_push_of_some _ e) (Nat.le_refl _)
      (show ObjOk X.prog X.w _ _ _ (.tup (kvs.map fun kv => kV kv.1)) from ⟨by rw [List.length_map]; exact z, acc.toList, by rw [ek]; exact hv, by have z := IsTup.new h' acc.toList.toArray; rw [Array.toArray_toList] at z ⊢; exact z⟩)
    exact ⟨.ref h'.objs.size, _, I2, rfl, q _ (I1.hok.fresh (Nat.le_refl _))⟩
end
end L2
namespace Pv
open PySem PySem.Spec PyProof.Rows L2
theorem keysF {S : Ctx} {B : Fx} {env : En} {σ : L2.St} {H : Hp} : ∀ {hk : List (List Key × V)} {bs : List Addr} {F : Hp}, At S B env F σ H → IsKeys H hk bs → ∃ F2, Le F F2 ∧ At S B env F2 σ H ∧ Rvs S.g F2 (hk.map fun p => tW p.1) (bs.map V.ref)
  | _, _, F, a, .nil => ⟨F, .refl F, a, .nil⟩
  | _, _, F, a, .cons h r => by
    obtain ⟨F1, l1, a1, h1⟩ := a.tupF h
    obtain ⟨F2, l2, a2, r2⟩ := keysF a1 r
    exact ⟨F2, l1.trans l2, a2, .cons ((Rv.tup h1 (rvs_kW _)).le l2) r2⟩
/-- tuple(x), list(x) -/
def fTuple3 (ws : List W) : Option W := match ws with
  | [.dic kvs] => some (.tup (kvs.map (·.1)))
  | ws => fTuple2 ws
def fList3 (ws : List W) : Option W := match ws with
  | [.dic kvs] => some (.lst (kvs.map (·.1)))
  | ws => fList2 ws
theorem rvs_kV {G : Wo} {F : Hp} : ∀ {hk : List (Key × V)}, Rvs G F (hk.map fun p => kW p.1) (hk.map fun p => kV p.1)
  | [] => .nil
  | (k, v) :: r => .cons (by cases k <;> first | exact .int _ | exact .str _) rvs_kV
section
variable {S : Ctx}
theorem c_tuple3 : CbOk S (.type "tuple") fTuple3 := by
  intro Wx B env F σ H ws vs z Q a rv q n
  unfold fTuple3 at q
  split at q
  · cases q
    cases rv with
    | cons h t =>
      cases t
      cases h with
      | dK hf e rs =>
        refine ⟨_, fun X ok => cr_tupleD ok.calm, .inr ⟨_, _, rfl, .inr ⟨_, a.le _ _ hf⟩, fun p hp => nx_tup n a ?_ hp⟩⟩
        rw [e]
        exact rvs_kV
      | dT ne hf e rs =>
        refine ⟨_, fun X ok => cr_tupleD ok.calm, .inl ⟨_, _, rfl, .inr ⟨_, a.le _ _ hf⟩, fun p bs hp hb => ?_⟩⟩
        obtain ⟨F2, l2, a2, r2⟩ := keysF a hb
        rw [← e] at r2
        exact nx_tup (fun v F' H' l a' r => n v F' H' (l2.trans l) a' r) a2 r2 hp
  · exact c_tuple2 Wx B env F σ H _ vs z Q a rv q n
theorem c_list3 : CbOk S (.type "list") fList3 := by
  intro Wx B env F σ H ws vs z Q a rv q n
  unfold fList3 at q
  split at q
  · cases q
    cases rv with
    | cons h t =>
      cases t
      cases h with
      | dK hf e rs =>
        refine ⟨_, fun X ok => call_listD ok.calm, _, _, rfl, .inr ⟨_, a.le _ _ hf⟩, fun p hp => nx_lst n a ?_ hp⟩
        rw [e]
        exact rvs_kV
      | dT ne hf e rs =>
        refine ⟨_, fun X ok => call_list_dT ok.calm, _, _, rfl, .inr ⟨_, a.le _ _ hf⟩, fun p bs hp hb => ?_⟩
        obtain ⟨F2, l2, a2, r2⟩ := keysF a hb
        rw [← e] at r2
        exact nx_lst (fun v F' H' l a' r => n v F' H' (l2.trans l) a' r) a2 r2 hp
  · exact c_list2 Wx B env F σ H _ vs z Q a rv q n
end
end Pv
/-! tuples of ints, in order -/
namespace Pv
open PySem PySem.Spec PyProof.Rows L2
/-- one before the other: by the first place at which they differ, else by length -/
def lexI : List Int → List Int → Bool
  | _, [] => false
  | [], _ :: _ => true
  | x :: xs, y :: ys => if x = y then lexI xs ys else decide (x < y)
theorem lexI_asym : ∀ xs ys : List Int, lexI xs ys = true → lexI ys xs = false
  | _, [], h => by simp [lexI] at h
  | [], _ :: _, _ => by simp [lexI]
  | x :: xs, y :: ys, h => by
    unfold lexI at h ⊢
    by_cases e : x = y
    · rw [if_pos e] at h
      rw [if_pos e.symm]
      exact lexI_asym xs ys h
    · rw [if_neg e] at h
      rw [if_neg fun z => e z.symm]
      have := of_decide_eq_true h
      exact decide_eq_false (by omega)
theorem lexI_tr : ∀ xs ys zs : List Int, lexI ys xs = false → lexI zs ys = false → lexI zs xs = false
  | [], _, _, _, _ => by simp [lexI]
  | x :: xs, [], _, h, _ => by simp [lexI] at h
  | x :: xs, y :: ys, [], _, h2 => by simp [lexI] at h2
  | x :: xs, y :: ys, z :: zs, h1, h2 => by
    unfold lexI at h1 h2 ⊢
    by_cases e1 : y = x
    · rw [if_pos e1] at h1
      subst e1
      by_cases e2 : z = y
      · rw [if_pos e2] at h2
        rw [if_pos e2]
        exact lexI_tr xs ys zs h1 h2
      · rw [if_neg e2] at h2
        rw [if_neg e2]
        exact h2
    · rw [if_neg e1] at h1
      have h1' := of_decide_eq_false h1
      by_cases e2 : z = y
      · subst e2
        rw [if_neg e1]
        exact h1
      · rw [if_neg e2] at h2
        have h2' := of_decide_eq_false h2
        rw [if_neg (by omega)]
        exact decide_eq_false (by omega)
theorem swo_lexI {α : Type} (k : α → List Int) : SrtO.Swo fun u v => lexI (k u) (k v) := ⟨fun x y h => lexI_asym _ _ h, fun x y z h1 h2 => lexI_tr _ _ _ h1 h2⟩
/-- two tuples that neither precedes are alike -/
theorem lexI_eq : ∀ xs ys : List Int, lexI xs ys = false → lexI ys xs = false → xs = ys
  | [], [], _, _ => rfl
  | [], _ :: _, h, _ => by simp [lexI] at h
  | _ :: _, [], _, h => by simp [lexI] at h
  | x :: xs, y :: ys, h1, h2 => by
    unfold lexI at h1 h2
    by_cases e : x = y
    · rw [if_pos e] at h1
      rw [if_pos e.symm] at h2
      rw [e, lexI_eq xs ys h1 h2]
    · rw [if_neg e] at h1
      rw [if_neg fun z => e z.symm] at h2
      have := of_decide_eq_false h1
      have := of_decide_eq_false h2
      omega
section
variable {prog : Program} {w : World} {A : Around} {s : Shared} {Q : Bool → Shared → Prop}
theorem kat_ints : ∀ {us vs : List Value} {ns ms : List Int} (i : Nat) (fin : Bool), IntsAre us ns → IntsAre vs ms → fin = decide (ns.length < ms.length) → Q (lexI ns ms) s → PySem.W.KatLex prog w A true fin Q (us.zip vs) i s
  | _, _, _, _, i, fin, .nil, .nil, hf, q => by
    subst hf
    exact PySem.W.kat_nil q
  | _, _, _, _, i, fin, .nil, .cons _ _ _, hf, q => by
    subst hf
    exact PySem.W.kat_nil (by simpa [lexI] using q)
  | _, _, _, _, i, fin, .cons _ _ _, .nil, hf, q => by
    subst hf
    exact PySem.W.kat_nil (by simpa [lexI] using q)
  | _, _, _, _, i, fin, .cons x t h1, .cons y u h2, hf, q => by
    refine PySem.W.kat_cons (SeqAt.EqAt.int_int x t y u prog w _ _ ?_)
    refine PySem.W.kat_go (fun e1 => ?_) (fun e1 => ?_)
    · have ex : x = y := by simpa using e1
      refine PySem.W.kat_yes (kat_ints (i + 1) fin h1 h2 (by rw [hf]; simp) ?_)
      unfold lexI at q
      rw [if_pos ex] at q
      exact q
    · have ex : ¬ x = y := by simpa using e1
      unfold lexI at q
      rw [if_neg ex] at q
      refine PySem.W.kat_no ?_
      cases i with
      | zero => exact oneLt_int q
      | succ i => exact PySem.W.kat_one _ _ (PyProof.Rows.lt_int q)
end
/-- a tuple of ints, as it lies -/
def IsTI (h : Heap) (v : Value) (ns : List Int) : Prop := ∃ (a : Addr) (o : Obj) (us : Array Value) (n : Nat), v = .ref a ∧ h.get? a = some o ∧ o.cls = .type "tuple" ∧ o.data = .seq us n ∧ IntsAre us.toList ns
theorem IsTI.keeps {h h' : Heap} {v : Value} {ns : List Int} (p : IsTI h v ns) (k : ∀ b o, h.get? b = some o → o.cls = .type "tuple" → h'.get? b = some o) : IsTI h' v ns := by
  obtain ⟨a, o, us, n, e, ho, hc, hd, hi⟩ := p
  exact ⟨a, o, us, n, e, k _ _ ho hc, hc, hd, hi⟩
theorem firstsI {h : Heap} {k : Value → List Int} : ∀ {vs : List Value}, (∀ v ∈ vs, IsTI h v (k v) ∧ k v ≠ []) → ∃ fs : List Value, PySem.W.KatTups h vs fs ∧ fs.length = vs.length ∧ ∀ f ∈ fs, ∃ x t, f = Value.int x t
  | [], _ => ⟨[], PySem.W.KatTups.nil, rfl, fun _ hm => by simp at hm⟩
  | v :: vs, hp => by
    obtain ⟨fs, h1, h2, h3⟩ := firstsI (vs := vs) fun v' hm => hp v' (List.mem_cons_of_mem _ hm)
    obtain ⟨⟨a, o, us, n, e, ho, hc, hd, hi⟩, ne⟩ := hp v (List.mem_cons_self ..)
    subst e
    obtain ⟨x, t, e1⟩ : ∃ x t, us[0]? = some (Value.int x t) := by
      rw [← Array.getElem?_toList]
      generalize us.toList = l at hi
      generalize k (.ref a) = ns at hi ne
      cases hi with
      | nil => exact absurd rfl ne
      | cons x t _ => exact ⟨x, t, rfl⟩
    refine ⟨.int x t :: fs, PySem.W.KatTups.cons ho hc hd e1 h1, by rw [List.length_cons, List.length_cons, h2], fun f hm => ?_⟩
    rcases List.mem_cons.mp hm with rfl | hm
    · exact ⟨x, t, rfl⟩
    · exact h3 f hm
section
variable {prog : Program} {w : World} {A : Around} {s : Shared}
theorem tups_cmp {vs : List Value} {k : Value → List Int} (hp : ∀ v ∈ vs, IsTI s.heap v (k v)) : SrtO.Cmp prog w A s (tuples' true) (fun p => p.1 ∈ vs) (SrtO.lt2 fun v u => lexI (k v) (k u)) := by
  intro p q hm hm'
  have h1 := hp _ hm
  have h2 := hp _ hm'
  show wpAny (model prog w) A (keyLt' (tuples' true) p.1 q.1) (fun r s' => s' = s ∧ r = lexI (k p.1) (k q.1)) (fun _ _ => False) s
  generalize k p.1 = ns at h1 ⊢
  generalize k q.1 = ms at h2 ⊢
  obtain ⟨a, o, us, n, e, ho, hc, hd, hi⟩ := h1
  obtain ⟨a', o', us', n', e', ho', hc', hd', hi'⟩ := h2
  rw [e, e']
  refine PySem.W.kat_lt ho hd ho' hd' (kat_ints 0 _ hi hi' ?_ ⟨rfl, rfl⟩)
  have l1 := hi.length
  have l2 := hi'.length
  rw [Array.length_toList] at l1 l2
  rw [← l1, ← l2]
/-- none of them empty -/
theorem tups_sortable {a : Addr} {vs : List Value} {k : Value → List Int} (h0 : 0 < vs.length) (hp : ∀ v ∈ vs, IsTI s.heap v (k v) ∧ k v ≠ []) (ha : ∀ o, s.heap.get? a = some o → o.cls ≠ .type "tuple") : SrtO.SortableO prog w A s a vs fun v u => lexI (k v) (k u) := by
  intro h' keep
  have hp' : ∀ v ∈ vs, IsTI h' v (k v) ∧ k v ≠ [] := fun v hm => ⟨(hp v hm).1.keeps fun b o e c => keep b o (fun z => by subst z; exact ha o e c) e, (hp v hm).2⟩
  obtain ⟨fs, h1, h2, h3⟩ := firstsI hp'
  refine ⟨tuples' true, fun Q E hq => ?_, tups_cmp fun v hv => (hp' v hv).1⟩
  refine PySem.W.kat_kind (T := .type "int") h1 (by omega) (fun f hm => ?_) (by rfl) ?_
  · obtain ⟨x, t, rfl⟩ := h3 f hm
    exact PySem.W.Looks.now
  · have e : (Value.type "int" != Value.type "tuple") = true := by first | decide +kernel | rfl | decide
    rw [e]
    exact hq
end
/-! ### where one of them is empty -/
theorem lexAt_go (ns ms : List Int) : ∀ (k i : Nat), i + k = min ns.length ms.length → Ob.lexAt (fun j => decide (ns.getD j 0 = ms.getD j 0)) (fun j => decide (ns.getD j 0 < ms.getD j 0)) (decide (ns.length < ms.length)) i k = lexI (ns.drop i) (ms.drop i)
  | 0, i, h => by
    rw [Ob.lexAt_zero]
    by_cases c : ns.length ≤ ms.length
    · have hi : i = ns.length := by omega
      rw [List.drop_eq_nil_of_le (show ns.length ≤ i by omega)]
      by_cases c2 : ns.length < ms.length
      · rw [decide_eq_true c2, List.drop_eq_getElem_cons (show i < ms.length by omega)]
        rfl
      · rw [decide_eq_false c2, List.drop_eq_nil_of_le (show ms.length ≤ i by omega)]
        rfl
    · rw [decide_eq_false (by omega), List.drop_eq_nil_of_le (show ms.length ≤ i by omega)]
      cases ns.drop i <;> rfl
  | k + 1, i, h => by
    have h1 : i < ns.length := by omega
    have h2 : i < ms.length := by omega
    rw [Ob.lexAt_succ, List.drop_eq_getElem_cons h1, List.drop_eq_getElem_cons h2, lexAt_go ns ms k (i + 1) (by omega)]
    have e1 : ns.getD i 0 = ns[i] := by simp [h1]
    have e2 : ms.getD i 0 = ms[i] := by simp [h2]
    rw [e1, e2]
    show _ = if ns[i] = ms[i] then lexI (ns.drop (i + 1)) (ms.drop (i + 1)) else decide (ns[i] < ms[i])
    by_cases e : ns[i] = ms[i]
    · rw [if_pos (decide_eq_true e), if_pos e]
    · rw [if_neg (by rw [decide_eq_false e]; exact Bool.false_ne_true), if_neg e]
section
variable {prog : Program} {w : World} {A : Around} {s : Shared} {E : Value → Shared → Prop}
theorem oneLt_tup {a b : Addr} {us vs : Array Value} {ns ms : List Int} {Q : Bool → Shared → Prop} (hl : s.heap.IsTuple a us) (hb : s.heap.IsTuple b vs) (i1 : IntsAre us.toList ns) (i2 : IntsAre vs.toList ms) (hu : A.units < cLine) (h : Q (lexI ns ms) s) :
    wpAny (model prog w) A (oneLt' true (.ref a) (.ref b)) Q E s := by
  obtain ⟨⟨cls, dd, data, sl⟩, ho, hc, n, hd⟩ := id hl
  obtain ⟨⟨cls2, dd2, data2, sl2⟩, ho2, hc2, n2, hd2⟩ := id hb
  simp only at hc hd hc2 hd2
  subst hc hd hc2 hd2
  have e1 : us.size = ns.length := by rw [← Array.length_toList]; exact i1.length
  have e2 : vs.size = ms.length := by rw [← Array.length_toList]; exact i2.length
  have at1 : ∀ j (h1 : j < us.size), ∃ t, us[j] = .int (ns.getD j 0) t := fun j h1 => by
    exact PyProof.Rows.IntsAre.int_at i1 _ _ (by simp [h1])
  have at2 : ∀ j (h1 : j < vs.size), ∃ t, vs[j] = .int (ms.getD j 0) t := fun j h1 => by
    exact PyProof.Rows.IntsAre.int_at i2 _ _ (by simp [h1])
  rw [oneLt'_eq]
  simp only [if_true]
  refine wpAny_bind (wpAny_cRoomFor hu ?_)
  refine wpAny_bind (wpAny_callSpecialIfBound?_slot ⟨_, ho, rfl⟩ F.slot_tuple_lt (call_meets F.slot_tuple_lt ⟨_, ho, rfl⟩ F.entry_tuple_lt (F.args_tuple_lt_2 _ _)
    (Ob.tuple_ltAt a b us vs n n2 dd dd2 sl sl2 (fun j => decide (ns.getD j 0 = ms.getD j 0)) (fun j => decide (ns.getD j 0 < ms.getD j 0))) ⟨ho, ho2, fun j h1 h2 => ?_, fun j h1 h2 _ => ?_, ?_⟩))
  · obtain ⟨t, et⟩ := at1 j h1
    obtain ⟨t', et'⟩ := at2 j h2
    rw [et, et']
    have z : (ns.getD j 0 == ms.getD j 0) = decide (ns.getD j 0 = ms.getD j 0) := by
      by_cases q : ns.getD j 0 = ms.getD j 0
      · rw [decide_eq_true q]; exact beq_iff_eq.mpr q
      · rw [decide_eq_false q]; exact beq_eq_false_iff_ne.mpr q
    rw [← z]
    exact SeqAt.EqAt.int_int _ _ _ _
  · obtain ⟨t, et⟩ := at1 j h1
    obtain ⟨t', et'⟩ := at2 j h2
    rw [et, et']
    exact Ob.RcOp.lt_int _ _ _ _
  · rw [e1, e2, lexAt_go ns ms (min ns.length ms.length) 0 (by omega), List.drop_zero, List.drop_zero]
    exact wpAny_truthy_bool h
end
def TupsO (h : Heap) : List Value → List (Option Value) → Prop
  | [], [] => True
  | v :: vs, f :: fs => (∃ a o xs n, v = .ref a ∧ h.get? a = some o ∧ o.cls = .type "tuple" ∧ o.data = .seq xs n ∧ xs[0]? = f) ∧ TupsO h vs fs
  | _, _ => False
section
variable {M : Model} {A : Around} {E : Value → Shared → Prop} {s : Shared}
theorem firsts_any : ∀ (vs : List Value) (fs : List (Option Value)) {Q : List (Option Value) → Shared → Prop}, TupsO s.heap vs fs → Q fs s → wpAny M A (vs.mapM firstOfTuple') Q E s
  | [], [], _, _, h => by rw [List.mapM_nil]; exact wpAny_pure h
  | [], _ :: _, _, t, _ => t.elim
  | _ :: _, [], _, t, _ => t.elim
  | v :: vs, f :: fs, Q, t, h => by
    obtain ⟨⟨a, o, xs, n, rfl, ho, hc, hd, hf⟩, t⟩ := t
    rw [List.mapM_cons]
    refine wpAny_bind ?_
    rw [PySem.W.kas_first_eq]
    refine wpAny_bind (PySem.W.Looks.here (show PySem.W.Looks M s.heap (typeOf (.ref a)) o.cls from (PySem.W.Looks.ld ho).andThen .now) ?_)
    rw [hc, if_neg (by first | decide | simp)]
    refine wpAny_bind (listItems_at ho hd (wpAny_pure ?_))
    rw [hf]
    exact wpAny_bind (firsts_any vs fs (Q := fun bs s' => wpAny M A (pure (f :: bs)) Q E s') t (wpAny_pure h))
theorem kind_any {vs : List Value} {fr : List (Option Value)} {Q : SortKind → Shared → Prop} (t : TupsO s.heap vs (none :: fr)) (hT : ∀ v ∈ vs, PySem.W.Looks M s.heap (typeOf v) (.type "tuple")) (h : Q oneType' s) :
    wpAny M A (keyKind' vs.toArray) Q E s := by
  have hv : vs ≠ [] := fun z => by subst z; exact t.elim
  rw [kat_kind_eq, List.mapM_toArray, map_eq_pure_bind]
  refine wpAny_bind (wpAny_bind (firsts_any vs _ t (wpAny_pure ?_)))
  have hall : ((none :: fr).toArray.all fun x => x.isSome) = false := by simp
  rw [if_neg (by rw [hall]; exact Bool.false_ne_true)]
  have h0 : ((none :: fr).toArray[0]?.bind id).isSome = false := by simp
  rw [if_neg (by rw [h0]; exact Bool.false_ne_true)]
  rw [oneTypeOnly'_eq, List.mapM_toArray, map_eq_pure_bind]
  refine wpAny_bind (wpAny_bind (wpAny_bind (PySem.W.kas_mapM (r := .type "tuple") _ (fun v hv Q' hq => (hT v hv).here hq) (wpAny_pure ?_))))
  obtain ⟨v1, vr, rfl⟩ : ∃ v1 vr, vs = v1 :: vr := by
    cases vs with
    | nil => exact absurd rfl hv
    | cons a b => exact ⟨a, b, rfl⟩
  have hall2 : ((List.map (fun _ => Value.type "tuple") (v1 :: vr)).toArray.all fun x => x == Value.type "tuple") = true := by
    simp only [List.all_toArray, List.all_map, List.all_eq_true]
    intro _ _
    rfl
  have h1 : (List.map (fun _ => Value.type "tuple") (v1 :: vr)).toArray[0]? = some (Value.type "tuple") := by simp
  rw [h1]
  simp only [hall2, if_true]
  exact wpAny_pure (wpAny_pure h)
end
end Pv
/-! sorted of a dict whose keys are tuples of ints -/
namespace Pv
open PySem PySem.Spec PyProof.Rows L2 SrtO
section
variable {prog : Program} {w : World} {A : Around} {s : Shared}
theorem tups_cmp1 {vs : List Value} {k : Value → List Int} (hu : A.units < cLine) (hp : ∀ v ∈ vs, IsTI s.heap v (k v)) : SrtO.Cmp prog w A s oneType' (fun p => p.1 ∈ vs) (SrtO.lt2 fun v u => lexI (k v) (k u)) := by
  intro p q hm hm'
  have h1 := hp _ hm
  have h2 := hp _ hm'
  show wpAny (model prog w) A (keyLt' oneType' p.1 q.1) (fun r s' => s' = s ∧ r = lexI (k p.1) (k q.1)) (fun _ _ => False) s
  generalize k p.1 = ns at h1 ⊢
  generalize k q.1 = ms at h2 ⊢
  obtain ⟨a, o, us, n, e, ho, hc, hd, hi⟩ := h1
  obtain ⟨a', o', us', n', e', ho', hc', hd', hi'⟩ := h2
  rw [e, e', keyLt'_oneType]
  exact oneLt_tup ⟨o, ho, hc, n, hd⟩ ⟨o', ho', hc', n', hd'⟩ hi hi' hu ⟨rfl, rfl⟩
theorem tupsO_of {h : Heap} {k : Value → List Int} : ∀ {vs : List Value}, (∀ v ∈ vs, IsTI h v (k v)) → ∃ fs, TupsO h vs fs
  | [], _ => ⟨[], trivial⟩
  | v :: vs, hp => by
    obtain ⟨fs, t⟩ := tupsO_of (vs := vs) fun v' hm => hp v' (List.mem_cons_of_mem _ hm)
    obtain ⟨a, o, us, n, e, ho, hc, hd, hi⟩ := hp v (List.mem_cons_self ..)
    exact ⟨us[0]? :: fs, ⟨a, o, us, n, e, ho, hc, hd, rfl⟩, t⟩
/-- the first one is empty -/
theorem tups_sortable0 {a : Addr} {v0 : Value} {vs : List Value} {k : Value → List Int} (hu : A.units < cLine) (hp : ∀ v ∈ v0 :: vs, IsTI s.heap v (k v)) (h0 : k v0 = []) (ha : ∀ o, s.heap.get? a = some o → o.cls ≠ .type "tuple") : SrtO.SortableO prog w A s a (v0 :: vs) fun v u => lexI (k v) (k u) := by
  intro h' keep
  have hp' : ∀ v ∈ v0 :: vs, IsTI h' v (k v) := fun v hm => (hp v hm).keeps fun b o e c => keep b o (fun z => by subst z; exact ha o e c) e
  obtain ⟨fs, t⟩ := tupsO_of (vs := vs) fun v hm => hp' v (List.mem_cons_of_mem _ hm)
  obtain ⟨b, o, us, n, e, ho, hc, hd, hi⟩ := hp' v0 (List.mem_cons_self ..)
  rw [h0] at hi
  have hus : us.toList = [] := by
    generalize us.toList = l at hi
    cases hi
    rfl
  have hu0 : us[0]? = none := by rw [← Array.getElem?_toList, hus]; rfl
  refine ⟨oneType', fun Q E hq => ?_, tups_cmp1 (s := { s with heap := h' }) hu hp'⟩
  refine kind_any (s := { s with heap := h' }) (fr := fs) ⟨⟨b, o, us, n, e, ho, hc, hd, hu0⟩, t⟩ (fun v hv => ?_) hq
  obtain ⟨b, o, us, n, e, ho, hc, hd, hi⟩ := hp' v hv
  rw [e]
  have z : PySem.W.Looks (model prog w) h' (typeOf (.ref b)) o.cls := (PySem.W.Looks.ld ho).andThen .now
  rw [hc] at z
  exact z
end
def intsV : List V → List Int
  | .int i :: r => i :: intsV r
  | _ => []
theorem intsV_map : ∀ ns : List Int, intsV (ns.map V.int) = ns
  | [] => rfl
  | n :: ns => by show n :: intsV (ns.map V.int) = _; rw [intsV_map ns]
def tupInts (H : Hp) (b : Addr) : List Int := match H b with
  | some (.tup us) => intsV us
  | _ => []
theorem tupInts_at {H : Hp} {b : Addr} {ns : List Int} (h : H b = some (.tup (ns.map V.int))) : tupInts H b = ns := by
  unfold tupInts
  rw [h]
  exact intsV_map ns
theorem refs_of : ∀ {out : List Value}, (∀ v ∈ out, ∃ b : Addr, v = .ref b) → ∃ cs : List Addr, out = cs.map Value.ref
  | [], _ => ⟨[], rfl⟩
  | v :: out, h => by
    obtain ⟨b, rfl⟩ := h v (List.mem_cons_self ..)
    obtain ⟨cs, e⟩ := refs_of (out := out) fun v hv => h v (List.mem_cons_of_mem _ hv)
    exact ⟨b :: cs, by rw [e]; rfl⟩
theorem keysI {H : Hp} : ∀ {kvs : List (List Key × V)} {bs : List Addr} {ks : List (List Int)}, IsKeys H kvs bs → kvs.map (·.1) = ks.map (fun l => l.map Sum.inl) → bs.map (tupInts H) = ks ∧ ∀ b ∈ bs, H b = some (.tup ((tupInts H b).map V.int))
  | _, _, ks, .nil, e => by
    cases ks with
    | nil => exact ⟨rfl, fun b hb => by simp at hb⟩
    | cons _ _ => cases e
  | _, _, ks, .cons (a := p) (b := b) h r, e => by
    cases ks with
    | nil => cases e
    | cons k ks =>
      simp only [List.map_cons, List.cons.injEq] at e
      obtain ⟨e1, e2⟩ := e
      have h' : H b = some (.tup (k.map V.int)) := by
        have h : H b = some (.tup (p.1.map kV)) := h
        rw [h, e1, List.map_map]
        rfl
      obtain ⟨h1, h2⟩ := keysI r e2
      refine ⟨by rw [List.map_cons, h1, tupInts_at h'], fun c hc => ?_⟩
      rcases List.mem_cons.mp hc with rfl | hc
      · rw [tupInts_at h']; exact h'
      · exact h2 c hc
/-- sorted(d) -/
def rSortedDT : List V → Hp → VK → Prop := fun xs H Q => ∃ (d : Addr) (kvs : List (List Key × V)) (ks : List (List Int)), xs = [V.ref d] ∧ Rd H d (.dT kvs) ∧ kvs.map (·.1) = ks.map (fun l => l.map Sum.inl) ∧ ((∀ k ∈ ks, k ≠ []) ∨ ∃ r, ks = [] :: r) ∧
  ∀ (p : Addr) (cs : List Addr), H p = none → (∀ c ∈ cs, H c = some (.tup ((tupInts H c).map V.int))) → (cs.map (tupInts H)).Perm ks → (cs.map (tupInts H)).Pairwise (fun x y => lexI y x = false) → Q (.ref p) (upd H p (.lst (cs.map V.ref)))
theorem cr_sortedDT {X : Cx} (hc : X.calm = true) (hu : X.A.units + 64 < cLine) : CallR X (.builtin "sorted") rSortedDT := by
  intro pins s σ H xs us Q I r h
  obtain ⟨d, kvs, ks, rfl, hd, hks, hcase, q⟩ := h
  rw [Vals.ref1 r]
  obtain ⟨o, es, ep, hs, hx, hdt, ho, hz, get⟩ := keys_dT I hd
  refine Calls.call_function_entry kind_sorted plain_sorted entry_sorted (args_sorted1 _) ?_
  unfold Builtin.«sorted»
  refine wpAny_bind (m := checkCount "sorted" 1 1 _) (wpAny_pure ?_)
  refine wpAny_bind (PySem.W.kdu_collect (A := X.A.in1) (kdl_raw hs hx hdt) (I.ok.hd hc) ho hz fun h' tk acc hk it => ?_)
  obtain ⟨bs, hb, ea, hl⟩ := get acc it
  obtain ⟨k1, k2⟩ := keysI hb hks
  rw [ea]
  have I1 : Inv X pins σ H { s with heap := h', toks := tk } := I.kept (t' := tk) hk
  have hlen : (bs.map Value.ref).length ≤ sizeLine := by rw [List.length_map]; exact hl
  refine wpAny_bind (wpAny_newList ?_ hlen)
  have hoL : (h'.push (seqObj "list" (bs.map Value.ref).toArray 0)).get? h'.objs.size = some (seqObj "list" (bs.map Value.ref).toArray 0) := Heap.get?_push_size _ rfl
  show wpAny _ _ _ _ _ { s with heap := h'.push (seqObj "list" (bs.map Value.ref).toArray 0), toks := tk }
  let k : Value → List Int := fun v => match v with
    | .ref b => tupInts H b
    | _ => []
  have ti : ∀ v ∈ bs.map Value.ref, IsTI (h'.push (seqObj "list" (bs.map Value.ref).toArray 0)) v (k v) := fun v hv => by
    obtain ⟨b, hbm, rfl⟩ := List.mem_map.mp hv
    obtain ⟨its, rv, ⟨o1, ho1, hc1, n1, hd1⟩, _⟩ := I1.tuple (.of (k2 b hbm))
    exact ⟨b, o1, its.toArray, n1, rfl, Heap.get?_push_of_some _ ho1, hc1, hd1, rv.ints⟩
  have hsort : 2 ≤ (bs.map Value.ref).length → SortableO X.prog X.w X.A.in1.in1 { s with heap := h'.push (seqObj "list" (bs.map Value.ref).toArray 0), toks := tk } h'.objs.size (bs.map Value.ref) fun v u => lexI (k v) (k u) := fun h2 => by
    have nt : ∀ o, (h'.push (seqObj "list" (bs.map Value.ref).toArray 0)).get? h'.objs.size = some o → o.cls ≠ .type "tuple" := fun o e => by
      rw [hoL] at e
      cases e
      intro c
      exact absurd (Value.type.inj c) (by decide)
    rcases hcase with hne | ⟨r, hr⟩
    · refine tups_sortable (s := { s with heap := h'.push (seqObj "list" (bs.map Value.ref).toArray 0), toks := tk }) (by omega) (fun v hv => ⟨ti v hv, ?_⟩) nt
      obtain ⟨b, hbm, rfl⟩ := List.mem_map.mp hv
      exact hne _ (by rw [← k1]; exact List.mem_map.mpr ⟨b, hbm, rfl⟩)
    · cases bs with
      | nil => simp at h2
      | cons b bs =>
        rw [hr, List.map_cons, List.cons.injEq] at k1
        exact tups_sortable0 (s := { s with heap := h'.push (seqObj "list" ((b :: bs).map Value.ref).toArray 0), toks := tk }) (by have e : X.A.in1.in1.units = X.A.units + 1 + 1 := rfl; omega) ti k1.1 nt
  refine wpAny_bind (wpAny_holding (wpAny_call_entry slot_list_sort ⟨_, hoL, rfl⟩ entry_list_sort
    (list_sort_ord (s := { s with heap := h'.push (seqObj "list" (bs.map Value.ref).toArray 0), toks := tk }) (swo_lexI k) hoL hlen hsort fun out hso hsb => ⟨_, rfl, ?_⟩) (args_list_sort _)))
  obtain ⟨cs, rfl⟩ := refs_of (out := out) fun v hv => by
    obtain ⟨b, _, e⟩ := List.mem_map.mp (hsb.perm.mem_iff.mp hv)
    exact ⟨b, e.symm⟩
  obtain ⟨e', he'⟩ := PyProof.Rows.sortedHeap_at (vs := bs.map Value.ref) (out := (cs.map Value.ref).toArray) hoL
  have hcl : cs.length = bs.length := by simpa using hsb.len
  have hcm : ∀ c ∈ cs, c ∈ bs := fun c hcc => by
    obtain ⟨b, hbm, e⟩ := List.mem_map.mp (hsb.perm.mem_iff.mp (List.mem_map.mpr ⟨c, hcc, rfl⟩))
    cases e
    exact hbm
  refine wpAny_pure ⟨_, rfl, .ref h'.objs.size, upd H h'.objs.size (.lst (cs.map V.ref)), I1.laid (t' := tk) (fun b u e => ?_) (Nat.le_refl _)
    (show ObjOk X.prog X.w _ _ _ (.lst (cs.map V.ref)) from ⟨by rw [List.length_map, hcl]; exact hl, cs.map Value.ref, e', vals_refs cs, he'⟩), rfl, q _ cs (I1.hok.fresh (Nat.le_refl _)) (fun c hcc => k2 c (hcm c hcc)) ?_ ?_⟩
  · have hb : b < h'.objs.size := Heap.lt_size e
    rw [PyProof.Rows.sortedHeap_old (Nat.ne_of_lt hb) (by rw [size_push']; exact Nat.lt_succ_of_lt hb)]
    exact Heap.get?_push_of_some _ e
  · have z := hsb.perm.map k
    rw [List.map_map, List.map_map] at z
    rw [← k1]
    exact z
  · have z : (cs.map Value.ref).Pairwise (fun x y => lexI (k y) (k x) = false) := hso
    rw [List.pairwise_map] at z ⊢
    exact z
end Pv
namespace Pv
open PySem PySem.Spec PyProof.Rows L2
def insL (x : List Int) : List (List Int) → List (List Int)
  | [] => [x]
  | y :: r => if lexI y x = false then x :: y :: r else y :: insL x r
def isortL : List (List Int) → List (List Int)
  | [] => []
  | x :: r => insL x (isortL r)
theorem insL_perm (x : List Int) : ∀ l, (insL x l).Perm (x :: l)
  | [] => .refl _
  | y :: r => by
    unfold insL
    split
    · exact .refl _
    · exact ((insL_perm x r).cons y).trans (.swap x y r)
theorem insL_srt (x : List Int) : ∀ {l : List (List Int)}, l.Pairwise (fun x y => lexI y x = false) → (insL x l).Pairwise (fun x y => lexI y x = false)
  | [], _ => List.pairwise_singleton _ _
  | y :: r, h => by
    unfold insL
    have h' := List.pairwise_cons.mp h
    split
    · rename_i c
      refine List.pairwise_cons.mpr ⟨fun z hz => ?_, h⟩
      rcases List.mem_cons.mp hz with rfl | hz
      · exact c
      · exact lexI_tr _ _ _ c (h'.1 z hz)
    · rename_i c
      refine List.pairwise_cons.mpr ⟨fun z hz => ?_, insL_srt x h'.2⟩
      rcases List.mem_cons.mp ((insL_perm x r).mem_iff.mp hz) with rfl | hz
      · refine lexI_asym _ _ ?_
        cases e : lexI y z with
        | true => rfl
        | false => exact absurd e c
      · exact h'.1 z hz
theorem isortL_perm : ∀ l, (isortL l).Perm l
  | [] => .refl _
  | x :: r => (insL_perm x _).trans ((isortL_perm r).cons x)
theorem isortL_srt : ∀ l, (isortL l).Pairwise (fun x y => lexI y x = false)
  | [] => .nil
  | x :: r => insL_srt x (isortL_srt r)
theorem isortL_eq {l m : List (List Int)} (p : m.Perm l) (h : m.Pairwise (fun x y => lexI y x = false)) : m = isortL l := List.Perm.eq_of_pairwise (fun a b _ _ h1 h2 => lexI_eq a b h2 h1) h (isortL_srt l) (p.trans (isortL_perm l).symm)
def tupsI : List W → Option (List (List Int))
  | [] => some []
  | .tup xs :: r => match iW3 xs, tupsI r with
    | some is, some l => some (is :: l)
    | _, _ => none
  | _ => none
theorem tupsI_map : ∀ {ws : List W} {ks : List (List Int)}, tupsI ws = some ks → ws = ks.map fun l => .tup (l.map .int)
  | [], _, e => by cases e; rfl
  | w :: ws, _, e => by
    cases w <;> simp [tupsI] at e
    split at e
    · rename_i is l e1 e2
      cases e
      rw [iW3_map e1, tupsI_map e2]
      rfl
    · cases e
theorem tW_ints : ∀ {hs : List (List Key)} {ks : List (List Int)}, (ks.map fun l => W.tup (l.map .int)) = hs.map tW → hs = ks.map fun l => l.map Sum.inl
  | [], [], _ => rfl
  | [], _ :: _, e => by cases e
  | _ :: _, [], e => by cases e
  | h :: hs, k :: ks, e => by
    simp only [List.map_cons, List.cons.injEq, tW, W.tup.injEq] at e
    rw [tW_ints e.2, kW_ints e.1]
    rfl
def okL (ks : List (List Int)) : Bool := match ks with
  | [] :: _ => true
  | ks => ks.all fun k => !k.isEmpty
def fSorted2 (ws : List W) : Option W := match ws with
  | [.dic kvs] => (match tupsI (kvs.map (·.1)) with
    | some ks => if ks ≠ [] ∧ okL ks = true then some (.lst ((isortL ks).map fun l => .tup (l.map .int))) else fSorted ws
    | none => fSorted ws)
  | ws => fSorted ws
theorem keysC {S : Ctx} {B : Fx} {env : En} {σ : L2.St} {H : Hp} : ∀ {cs : List Addr} {F : Hp}, At S B env F σ H → (∀ c ∈ cs, H c = some (.tup ((tupInts H c).map V.int))) → ∃ F2, Le F F2 ∧ At S B env F2 σ H ∧ Rvs S.g F2 ((cs.map (tupInts H)).map fun l => .tup (l.map .int)) (cs.map V.ref)
  | [], F, a, _ => ⟨F, .refl F, a, .nil⟩
  | c :: cs, F, a, h => by
    obtain ⟨F1, l1, a1, h1⟩ := a.tupF (h c (List.mem_cons_self ..))
    obtain ⟨F2, l2, a2, r2⟩ := keysC a1 fun c hc => h c (List.mem_cons_of_mem _ hc)
    exact ⟨F2, l1.trans l2, a2, .cons ((Rv.tup h1 (rvs_ints _)).le l2) r2⟩
theorem c_sorted2 {S : Ctx} : CbOk S (.builtin "sorted") fSorted2 := by
  intro Wx B env F σ H ws vs z Q a rv q n
  unfold fSorted2 at q
  split at q
  · rename_i kvs
    split at q
    · rename_i ks ek
      split at q
      · rename_i c
        cases q
        have em := tupsI_map ek
        cases rv with
        | cons h t =>
          cases t
          cases h with
          | @dT _ ad ob hk ne hf e rs =>
            rw [em] at e
            have e2 := tW_ints (hs := hk.map (·.1)) (ks := ks) (e.trans (by rw [List.map_map]; rfl))
            refine ⟨rSortedDT, fun X ok => cr_sortedDT ok.calm (by have := ok.room.un; omega), ad, hk, ks, rfl, .inr ⟨_, a.le _ _ hf⟩, e2, ?_, fun p cs hp hc h1 h2 => ?_⟩
            · have c2 := c.2
              unfold okL at c2
              split at c2
              · exact .inr ⟨_, rfl⟩
              · refine .inl fun k hk => ?_
                have := List.all_eq_true.mp c2 k hk
                intro z
                subst z
                simp at this
            · obtain ⟨F2, l2, a2, r2⟩ := keysC a hc
              rw [isortL_eq h1 h2] at r2
              exact nx_lst (fun v F' H' l a' r => n v F' H' (l2.trans l) a' r) a2 r2 hp
          | @dK _ ad ob hk hf e rs =>
            rw [em] at e
            cases ks with
            | nil => exact absurd rfl c.1
            | cons k ks =>
              cases hk with
              | nil => cases e
              | cons p r =>
                obtain ⟨p1, p2⟩ := p
                cases p1 <;> simp [kW] at e
      · exact c_sorted Wx B env F σ H _ vs z Q a rv q n
    · exact c_sorted Wx B env F σ H _ vs z Q a rv q n
  · exact c_sorted Wx B env F σ H _ vs z Q a rv q n
end Pv
/-! how many different tuples there are -/
namespace Pv
open PySem PySem.Spec PyProof.Rows L2
section
variable {P : Program} {w : World} {A : Around} {E : Value → Shared → Prop} {s : Shared}
/-- the new set's object -/
abbrev setE (w : World) : Obj := { cls := .type "set", dict := none, data := .set #[] 0 (.fresh 0 0 (!w.params.followText "set-order")) }
/-- set(t): t a tuple of tuples of ints -/
theorem set_tupsT {l : Addr} {items : Array Value} (ks : List (Addr × List Int)) {Q : Value → Shared → Prop} (hh : A.handled = none) (hl : s.heap.IsTuple l items) (hit : items.toList = ks.map fun p => Value.ref p.1)
    (hk : ∀ p ∈ ks, IsT P w s.heap p.2 p.1) (hfew : ks.length < 64) (hu : A.units + 3 < cLine)
    (h : ∀ (h' : Heap) (tk : Nat) L es ep t, SetTR P w h' s.heap.objs.size L es ep t → Got ks ks.length L → (∀ b o, s.heap.get? b = some o → h'.get? b = some o) → Q (.ref s.heap.objs.size) { s with heap := h', toks := tk }) :
    wpAny (model P w) A (call (.type "set") [.ref l]) Q E s := by
  have hisz : items.size = ks.length := by simpa using congrArg List.length hit
  have hval : ∀ (i : Nat) (v : Value), items[i]? = some v → ∃ p, ks[i]? = some p ∧ v = .ref p.1 := fun i v hv => by
    have q : items.toList[i]? = some v := by rw [Array.getElem?_toList]; exact hv
    rw [hit, List.getElem?_map] at q
    obtain ⟨p, q1, q2⟩ := Option.map_eq_some_iff.mp q
    exact ⟨p, q1, q2.symm⟩
  have gone : ∀ b, s.heap.objs.size ≤ b → s.heap.get? b = none := fun b hb => by
    rcases q : s.heap.get? b with _ | o
    · rfl
    · exact absurd (Heap.lt_size q) (Nat.not_lt.mpr hb)
  have cs := PySem.F.called_set
  obtain ⟨c, tl, hmro⟩ := cs.mro
  have x1 := cs.made
  have x2 := cs.sub
  have x3 := cs.notType
  have x4 := cs.canCreate
  have x5 := PySem.F.typeCall_set_1 (.ref l)
  refine wpAny_call (codeAny_of_tree ?_)
  show wpAny _ _ (callAny (.type "set") _) _ _ _
  refine wpAny_pure ⟨Code.quiet_builtin _ (by decide +kernel), codeAny_builtin PySem.F.entry_type_call ?_⟩
  rw [Around.under_plain (weight_type_call_type "set" [.ref l] []) rfl]
  repeat (any_goals (first | assumption | wp_step))
  refine codeAny_mono (code_set_led1 (.ref l) (E := E) (Q₁ := fun u z => u = .ref s.heap.objs.size ∧ z = { s with heap := s.heap.push (setE w) }) ⟨rfl, rfl⟩) fun r z hr => ?_
  rcases r with e | (u | _ | _ | _)
  case error => exact hr
  all_goals first | exact hr.elim | skip
  obtain ⟨rfl, rfl⟩ := hr
  have hS : (s.heap.push (setE w)).get? s.heap.objs.size = some (setE w) := Heap.get?_push_size _ rfl
  have hT : Shared.TypeIs { s with heap := s.heap.push (setE w) } (.ref s.heap.objs.size) "set" := ⟨_, hS, rfl⟩
  have x6 := cs.init.lookup
  have x7 := cs.init.bind (.ref s.heap.objs.size)
  repeat (any_goals (first | assumption | wp_step))
  refine codeAny_mono (codeAny_call_builtin (R := wants (fun r z => r = .none ∧ ∃ h' tk L es ep t, z = { s with heap := h', toks := tk } ∧ SetTR P w h' s.heap.objs.size L es ep t ∧ Got ks ks.length L ∧ (∀ b o, s.heap.get? b = some o → h'.get? b = some o)) E) cs.init.plain PySem.F.entry_set_init (check_set_init_1 hT ?_)) fun r z hr => ?_
  · obtain ⟨⟨ocl, odi, oda, osl⟩, hol, hcl, nl, hdl⟩ := hl
    simp only at hcl hdl
    subst hcl
    subst hdl
    have hol1 := Heap.get?_push_of_some (setE w) hol
    have y1 := PySem.F.sub_tuple_set
    have y2 := PySem.F.sub_tuple_frozenset
    have y3 : (Value.type "tuple" == Value.type "dict") = false := by decide
    have hl1 : (s.heap.push (setE w)).IsTuple l items := ⟨_, hol1, rfl, nl, rfl⟩
    have hlt : l < s.heap.objs.size := Heap.lt_size hol
    have hsz : (s.heap.push (setE w)).objs.size = s.heap.objs.size + 1 := Heap.size_push ..
    unfold Builtin.«set.__init__» noKeywords Builtin.Frozenset.updateFrom
    generalize hPI : pyIter = PI
    wp_walk
    subst hPI
    refine wpAny_pyIter_tuple hl1 (wpAny_bind (wpAny_runValue ?_))
    have n1 : l ≠ (s.heap.push (setE w)).objs.size := fun z => absurd (z ▸ hsz : l = s.heap.objs.size + 1) (Nat.ne_of_lt (Nat.lt_succ_of_lt hlt))
    have n2 : s.heap.objs.size ∉ [(s.heap.push (setE w)).objs.size, l] := by
      rw [hsz]
      simp only [List.mem_cons, List.not_mem_nil, or_false, not_or]
      exact ⟨Nat.ne_of_lt (Nat.lt_succ_self _), Nat.ne_of_gt hlt⟩
    have hh3 : A.in1.in1.in1.handled = none := by simp [hh]
    refine set_update_tups ((Walks.tuple hh3 _ l n1 items).toS) s.heap.objs.size n2 ks hisz hfew hval s.heap hk (gone _ (Nat.le_refl _)) (fun b hb => gone b ?_) hu (items.size - 0) 0 _ rfl (Nat.zero_le _)
      ⟨⟨_, Heap.get?_push_size _ rfl, rfl, rfl⟩, hl1.push _⟩ (fun b o e => Heap.get?_push_of_some _ (Heap.get?_push_of_some _ e)) ⟨[], #[], 0, _, setTR_fresh (Heap.get?_push_of_some _ hS), Got.zero ks⟩ ?_
    · rw [List.mem_singleton.mp hb, Heap.size_push]
      exact Nat.le_succ _
    · rintro ⟨h', g2, d', tk', os'⟩ L es ep t hm hS' g' hkp
      obtain rfl : g2 = s.gens := hm.gens
      obtain rfl : d' = s.drawn := hm.drawn
      obtain rfl : os' = s.os := hm.os
      rw [hisz] at g'
      exact wpAny_pure (wpAny_pure ⟨rfl, h', tk', L, es, ep, t, rfl, hS', g', hkp⟩)
  · rcases r with e | (u | _ | _ | _)
    case error => exact hr
    all_goals first | exact hr.elim | skip
    obtain ⟨rfl, h', tk, L, es, ep, t, rfl, hS', g', hk'⟩ := hr
    repeat (any_goals (first | assumption | wp_step))
    exact h _ _ _ _ _ _ hS' g' hk'
end
end Pv
namespace Pv
open PySem PySem.Spec PyProof.Rows L2
/-! ### how many -/
/-- each once, the last of the equal ones -/
def once : List (List Int) → List (List Int)
  | [] => []
  | x :: r => if x ∈ r then once r else x :: once r
theorem mem_once : ∀ {l : List (List Int)} {x : List Int}, x ∈ once l ↔ x ∈ l
  | [], _ => Iff.rfl
  | y :: r, x => by
    unfold once
    split
    · rename_i c
      rw [mem_once, List.mem_cons]
      exact ⟨.inr, fun h => h.elim (fun e => e ▸ c) id⟩
    · rw [List.mem_cons, List.mem_cons, mem_once]
theorem nodup_once : ∀ l : List (List Int), (once l).Nodup
  | [] => .nil
  | y :: r => by
    unfold once
    split
    · exact nodup_once r
    · rename_i c
      exact List.nodup_cons.mpr ⟨fun h => c (mem_once.mp h), nodup_once r⟩
theorem once_len {l m : List (List Int)} (h : m.Nodup) (e : ∀ x, x ∈ m ↔ x ∈ l) : m.length = (once l).length :=
  (List.perm_ext_iff_of_nodup h (nodup_once l)).mpr (fun x => (e x).trans mem_once.symm) |>.length_eq
def tLenSetT (K : PySem.W.Frag) (ta : TE) : TE := fun σ H Q => ta σ H fun x H1 => ∃ (l : Addr) (ks : List (Addr × List Int)), x = V.ref l ∧ SqT K H1 l (ks.map fun p => V.ref p.1) ∧ (∀ p ∈ ks, SqT K H1 p.1 (p.2.map V.int)) ∧ ks.length < 64 ∧ Q (.int (once (ks.map (·.2))).length) H1
theorem pe_lenSetT {X : Cx} {a : Expr} {ta : TE} {p p2 q pos : Pos} (hc : X.calm = true) (hu : X.A.units + 64 < cLine) (hg : Gl X "len") (hm : X.mg "len" = none) (hg2 : Gl X "set") (hm2 : X.mg "set" = none) (ha : PE X a ta)
    (na : starEach [a] X.env = (false, eval a X.env) :: starEach [] X.env) : PE X (.Call (.Name "len" p) [.Call (.Name "set" p2) [a] [] q] [] pos) (tLenSetT X.K ta) := by
  refine ⟨fun pins s σ H Q I h => ?_⟩
  refine Call_ (ld_blt I hg hm PySem.boot_len (PyProof.Rows.callWith_builtin1 (PyProof.Rows.args_cons (Call_ (ld_blt I hg2 hm2 PyProof.Rows.boot_set (PyProof.Rows.callWith_type1 (PyProof.Rows.args_cons (thn (ha.run pins s σ H _ I h) fun v s1 ⟨x, H1, I1, r1, q1⟩ => PyProof.Rows.args_nil ?_) na) na rfl))) rfl) rfl rfl))
  obtain ⟨l, ks, rfl, hq, hk, h64, q1⟩ := q1
  cases r1
  obtain ⟨its, r, hl, hz⟩ := I1.tuple hq
  refine set_tupsT (P := X.prog) (w := X.w) ks (I1.ok.hd hc) hl (by simpa using refs_of_vals r) (fun p hp => I1.isT (hk p hp)) h64 (by omega) fun h' tk L es ep t R g keep => PyProof.Rows.args_nil ?_
  have I2 : Inv X pins σ H1 { s1 with heap := h', toks := tk } := I1.kept keep
  obtain ⟨o, ho, hex, hd⟩ := R.ob
  have hsz : es.size = L.length := SetTR.size (s := { s1 with heap := h', toks := tk }) R
  have few := R.few
  have hn : L.length = (once (ks.map (·.2))).length := by
    rw [← once_len (l := ks.map (·.2)) R.nd fun x => ⟨fun hx => ?_, fun hx => ?_⟩, List.length_map]
    · obtain ⟨p, hp, rfl⟩ := List.mem_map.mp hx
      exact List.mem_map.mpr ⟨p, List.mem_of_mem_take (g.sub p hp), rfl⟩
    · obtain ⟨p, hp, rfl⟩ := List.mem_map.mp hx
      exact g.all p (by rw [List.take_length]; exact hp)
  refine call_len_set (s := { s1 with heap := h', toks := tk }) ho hex hd (SetTR.fits (s := { s1 with heap := h', toks := tk }) R) (by omega) ⟨.int L.length, H1, I2.tok _, ⟨_, by rw [hsz]⟩, ?_⟩
  rw [hn]
  exact q1
/-- len(set(t)): a tuple of tuples of ints -/
def fLenSet (f : FE) : FE := fun env => (f env).bind fun x e1 => match x with
  | .tup ws => (match tupsI ws with
    | some ks => if ks.length < 64 then .ok (.int (once ks).length) e1 else .bad
    | none => .bad)
  | _ => .bad
theorem tupsI_rv {G : Wo} {F : Hp} : ∀ {ks : List (List Int)} {vs : List V}, Rvs G F (ks.map fun l => W.tup (l.map .int)) vs → ∃ ps : List (Addr × List Int), vs = ps.map (fun p => V.ref p.1) ∧ ps.map (·.2) = ks ∧ ∀ p ∈ ps, F p.1 = some (.tup (p.2.map V.int))
  | [], _, .nil => ⟨[], rfl, rfl, fun p h => by cases h⟩
  | k :: ks, _, .cons h r => by
    obtain ⟨ps, rfl, rfl, q⟩ := tupsI_rv r
    cases h with
    | @tup _ b vs1 hb rb =>
      have e1 := iW3_rv rb (is := k) (by clear q r rb hb; induction k with
        | nil => rfl
        | cons i k ih => simp [iW3, ih])
      subst e1
      refine ⟨(b, k) :: ps, rfl, rfl, fun p hp => ?_⟩
      rcases List.mem_cons.mp hp with rfl | hp
      · exact hb
      · exact q p hp
theorem re_lenset {S : Ctx} {e : Expr} {f : FE} {p p2 q pos : Pos} (hg : S.sc.names.lookup ("len" : Str) = some .globalImplicit) (hm : S.g.mg ("len" : Str) = none) (hg2 : S.sc.names.lookup ("set" : Str) = some .globalImplicit) (hm2 : S.g.mg ("set" : Str) = none) (he : RE S e f)
    (na : ∀ env : Env, starEach [e] env = (false, eval e env) :: starEach [] env := by intro _; rfl) : RE S (.Call (.Name "len" p) [.Call (.Name "set" p2) [e] [] q] [] pos) (fLenSet f) := by
  intro Wx B env F σ H Q at_ z
  refine ⟨tLenSetT S.g.K (UE S Wx e), fun X ok => ?_, ?_⟩
  · have u := pe_lenSetT (X := X) (p := p) (p2 := p2) (q := q) (pos := pos) ok.calm (by have := ok.room.un; omega) (gl_of ok hg) (by rw [ok.mg]; exact hm) (gl_of ok hg2) (by rw [ok.mg]; exact hm2) (ue_pe (e := e) ok) (na _)
    rw [ok.K] at u
    exact u
  · refine he Wx B env F σ H _ at_ (Po.bnd z fun x e1 v F1 H1 _ l1 a1 r1 z1 => ?_)
    split at z1
    case h_2 => exact z1.elim
    split at z1
    case h_2 => exact z1.elim
    rename_i ks ek
    split at z1
    case isFalse => exact z1.elim
    rename_i h64
    have em := tupsI_map ek
    subst em
    cases r1 with
    | @tup _ l vs hl rs =>
      obtain ⟨ps, rfl, rfl, hp⟩ := tupsI_rv rs
      refine ⟨l, ps, rfl, .of (a1.le _ _ hl), fun p h => .of (a1.le _ _ (hp p h)), by simpa using h64, z1 _ F1 H1 (.refl _) a1 (.int _)⟩
end Pv
/-! a law's loop over things that are written out, step by step -/
namespace Pv
open PySem L2
section
variable {I : FI} {g : FG} {f q r r' u v v' b b' : FS} {ws ws' : List W} {w : W} {e e1 : En}
theorem Rt.enter (hq : q = sFor I g f) (hv : v = sSeq (loopF g f ws) u) (hI : I e = .ok ws e1) (k : Rt (v e1)) : Rt (sSeq q u e) := by
  subst hq
  subst hv
  unfold sSeq sFor
  rw [hI]
  exact k
theorem Rt.item (hv : v = sSeq (loopF g f ws) u) (hb : b = sSeq f v') (hv' : v' = sSeq (loopF g f ws') u) (hw : ws = w :: ws') (hg : g w e = some e1) (k : Rt (b e1)) : Rt (v e) := by
  subst hv
  subst hb
  subst hv'
  subst hw
  unfold sSeq loopF
  rw [hg]
  unfold sSeq at k
  cases h : f e1 with
  | nx e2 => simp only [h] at k ⊢; exact k
  | ret x e2 => simp only [h] at k ⊢; exact k
  | _ => rw [h] at k; obtain ⟨_, _, z, _⟩ := k; cases z
theorem Rt.bit (hb : b = sSeq r v) (hr : r = sSeq q r') (hb' : b' = sSeq r' v) (hq : q e = .nx e1) (k : Rt (b' e1)) : Rt (b e) := by
  subst hb
  subst hr
  subst hb'
  show Rt (sSeq (sSeq q r') v e)
  unfold sSeq
  rw [hq]
  exact k
theorem Rt.leave (hv : v = sSeq (loopF g f ws) u) (hw : ws = []) (k : Rt (u e)) : Rt (v e) := by
  subst hv
  subst hw
  exact k
end
end Pv
/-! own classes: where their defs stand -/
namespace Pv
open PySem PySem.Spec PyProof.Rows L2
def inCls (s : Stmt) (k : Nat) : Stmt := match s with
  | .ClassDef _ _ _ b _ _ _ _ _ _ _ => b.getD k (.Pass ⟨0, 0, 0, 0⟩)
  | _ => .Pass ⟨0, 0, 0, 0⟩
structure MethAt (G : Wo) (s : Stmt) (C m q : Str) (ps : List Str) : Prop where
  ex : ∃ (c f : Addr) (fd : FuncData), G.mg C = some (.ref c) ∧ Cls G.K c ∧ Meth G.K c m f ∧ L2.Fun G.K m q s f fd ∧ Binds G.K fd ps []
structure PropAt (G : Wo) (s : Stmt) (C m q : Str) (ps : List Str) : Prop where
  ex : ∃ (c p f : Addr) (fd : FuncData), G.mg C = some (.ref c) ∧ Cls G.K c ∧ PropOf G.K c m p f ∧ L2.Fun G.K m q s f fd ∧ Binds G.K fd ps []
structure CMetAt (G : Wo) (s : Stmt) (C m q : Str) (ps : List Str) : Prop where
  ex : ∃ (c p f : Addr) (mc : Value) (fd : FuncData), G.mg C = some (.ref c) ∧ ClX.CRead G.K c mc ∧ ClX.CMet G.K c mc m p f ∧ L2.Fun G.K m q s f fd ∧ Binds G.K fd ps []
structure InitAt (G : Wo) (s : Stmt) (C m q : Str) (ps : List Str) : Prop where
  ex : ∃ (c f : Addr) (fd : FuncData), G.mg C = some (.ref c) ∧ Mk G.K c f ∧ L2.Fun G.K m q s f fd ∧ Binds G.K fd ps []
def clsB (K : PySem.W.Frag) (C : Addr) : Bool := PySem.W.plainGet K C Str.empty && (PySem.W.hasDictIn K C && (PySem.W.plainOver K C && decide (PySem.W.findIn K (.ref C) "__setattr__" = some (some (.builtin "object.__setattr__")))))
theorem clsB_ok {K : PySem.W.Frag} {C : Addr} (h : clsB K C = true) : Cls K C := by
  unfold clsB at h
  simp only [Bool.and_eq_true, decide_eq_true_eq] at h
  exact ⟨h.1, h.2.1, h.2.2.1, h.2.2.2⟩
def makeB (K : PySem.W.Frag) (C : Addr) : Bool := PySem.W.makesIn K C && PySem.W.keepIn K (.ref C)
def readB (K : PySem.W.Frag) (C : Addr) : Bool := PySem.W.readsIn K C (.type "type") && decide (PySem.W.specialIn K (.ref C) "__getattribute__" = some (some (.builtin "type.__getattribute__")))
def isiB (K : PySem.W.Frag) (C : Addr) : Bool := ["NoneType", "bool", "int", "str", "tuple", "list", "dict"].all (fun t => decide (PySem.W.kitOne K (.type t) (.ref C) = some false)) && (decide (PySem.W.kitOne K (.ref C) (.ref C) = some true) && (decide (PySem.W.findIn K (.ref C) "__class__" = some (some (.builtin "object.__class__"))) &&
  (decide (PySem.W.specialIn K (.builtin "object.__class__") "__get__" = some (some (.builtin "getset_descriptor.__get__"))) && (decide (PySem.W.takesIn K (.builtin "object.__class__") = some true) && decide (PySem.W.mroIn K C (.type "object") = some true)))))
theorem isiB_ok {G : Wo} {C : Str} {c : Addr} (hm : G.mg C = some (.ref c)) (hc : Cls G.K c) (h : isiB G.K c = true) : IsiOk G C := by
  unfold isiB at h
  simp only [Bool.and_eq_true, decide_eq_true_eq, List.all_eq_true] at h
  exact ⟨c, hm, h.1, h.2.1, hc, h.2.2.1, h.2.2.2.1, h.2.2.2.2.1, h.2.2.2.2.2⟩
section
variable {K : PySem.W.Frag} {h : Heap} {mg : Str → Option Value} {st : Stmt} {C m q : Str} {ps : List Str} {c p f : Addr} {oc kV doc pm cd ct : Value} {od an : Option Addr} {sl : Array (Option Value)} {rest : List Value}
theorem meth_of (X : K.In h) (G : h.Ns mainGlobals mg) (gc : PySem.W.nsIn K mainGlobals C = some (some (.ref c))) (hc : clsB K c = true) (a : PySem.W.findIn K (.ref c) m = some (some (.ref f))) (fn : PySem.W.isFn K (.ref f) = true)
    (l : K.lookup f = some ⟨oc, od, .func (PySem.W.fnOf m q (defArgs st) (defBody st) (defScope st) .none kV doc pm an cd ct), sl⟩) (ci : PySem.W.codeIn K cd q = true) (kp : PySem.W.keepIn K (.ref f) = true)
    (b : ∀ (kV doc pm : Value) (an : Option Addr) (cdv ct : Value) (us : List Value), us.length = ps.length → bindArgs (PySem.W.fnOf m q (defArgs st) (defBody st) (defScope st) .none kV doc pm an cdv ct) ⟨us, []⟩ = pure (ps.zip us)) :
    ∀ (P : Program) (w : World) (base : Heap) (T : List (Addr × Str)), MethAt ⟨P, w, K, mg, base, T⟩ st C m q ps := fun P w base T =>
  have F := fun_mk (st := st) l ci kp
  ⟨c, f, _, PySem.W.mg_of X G gc, clsB_ok hc, ⟨a, fn, kp⟩, F, F.binds b⟩
theorem prop_of (X : K.In h) (G : h.Ns mainGlobals mg) (gc : PySem.W.nsIn K mainGlobals C = some (some (.ref c))) (hc : clsB K c = true) (a : PySem.W.findIn K (.ref c) m = some (some (.ref p))) (gt : PySem.W.specialIn K (.ref p) "__get__" = some (some (.builtin "property.__get__")))
    (tk : PySem.W.takesIn K (.ref p) = some true) (rc : PySem.W.recIn K p "property" = some (.ref f :: rest))
    (l : K.lookup f = some ⟨oc, od, .func (PySem.W.fnOf m q (defArgs st) (defBody st) (defScope st) .none kV doc pm an cd ct), sl⟩) (ci : PySem.W.codeIn K cd q = true) (kp : PySem.W.keepIn K (.ref f) = true)
    (b : ∀ (kV doc pm : Value) (an : Option Addr) (cdv ct : Value) (us : List Value), us.length = ps.length → bindArgs (PySem.W.fnOf m q (defArgs st) (defBody st) (defScope st) .none kV doc pm an cdv ct) ⟨us, []⟩ = pure (ps.zip us)) :
    ∀ (P : Program) (w : World) (base : Heap) (T : List (Addr × Str)), PropAt ⟨P, w, K, mg, base, T⟩ st C m q ps := fun P w base T =>
  have F := fun_mk (st := st) l ci kp
  ⟨c, p, f, _, PySem.W.mg_of X G gc, clsB_ok hc, ⟨a, gt, tk, ⟨rest, rc⟩⟩, F, F.binds b⟩
theorem cmet_of (X : K.In h) (G : h.Ns mainGlobals mg) (gc : PySem.W.nsIn K mainGlobals C = some (some (.ref c))) (hc : readB K c = true) (a : PySem.W.findCls K (.ref c) (.type "type") m = some (.get (.builtin "classmethod.__get__") (.ref p) .none (.ref c)))
    (rc : PySem.W.recIn K p "classmethod" = some (.ref f :: rest)) (fi : PySem.W.fnIn K f = true)
    (l : K.lookup f = some ⟨oc, od, .func (PySem.W.fnOf m q (defArgs st) (defBody st) (defScope st) .none kV doc pm an cd ct), sl⟩) (ci : PySem.W.codeIn K cd q = true) (kp : PySem.W.keepIn K (.ref f) = true)
    (b : ∀ (kV doc pm : Value) (an : Option Addr) (cdv ct : Value) (us : List Value), us.length = ps.length → bindArgs (PySem.W.fnOf m q (defArgs st) (defBody st) (defScope st) .none kV doc pm an cdv ct) ⟨us, []⟩ = pure (ps.zip us)) :
    ∀ (P : Program) (w : World) (base : Heap) (T : List (Addr × Str)), CMetAt ⟨P, w, K, mg, base, T⟩ st C m q ps := fun P w base T => by
  have F := fun_mk (st := st) l ci kp
  unfold readB at hc
  simp only [Bool.and_eq_true, decide_eq_true_eq] at hc
  exact ⟨c, p, f, .type "type", _, PySem.W.mg_of X G gc, ⟨hc.1, hc.2⟩, ⟨a, ⟨rest, rc⟩, fi⟩, F, F.binds b⟩
theorem init_of (X : K.In h) (G : h.Ns mainGlobals mg) (gc : PySem.W.nsIn K mainGlobals C = some (some (.ref c))) (hc : makeB K c = true) (a : PySem.W.findIn K (.ref c) "__init__" = some (some (.ref f))) (fn : PySem.W.isFn K (.ref f) = true)
    (l : K.lookup f = some ⟨oc, od, .func (PySem.W.fnOf m q (defArgs st) (defBody st) (defScope st) .none kV doc pm an cd ct), sl⟩) (ci : PySem.W.codeIn K cd q = true) (kp : PySem.W.keepIn K (.ref f) = true)
    (b : ∀ (kV doc pm : Value) (an : Option Addr) (cdv ct : Value) (us : List Value), us.length = ps.length → bindArgs (PySem.W.fnOf m q (defArgs st) (defBody st) (defScope st) .none kV doc pm an cdv ct) ⟨us, []⟩ = pure (ps.zip us)) :
    ∀ (P : Program) (w : World) (base : Heap) (T : List (Addr × Str)), InitAt ⟨P, w, K, mg, base, T⟩ st C m q ps := fun P w base T => by
  have F := fun_mk (st := st) l ci kp
  unfold makeB at hc
  simp only [Bool.and_eq_true] at hc
  exact ⟨c, f, _, PySem.W.mg_of X G gc, ⟨hc.1, a, fn, hc.2⟩, F, F.binds b⟩
end
theorem fld_of {G : Wo} {C f : Str} {c : Addr} (hm : G.mg C = some (.ref c)) (hc : clsB G.K c = true) (na : PySem.W.findIn G.K (.ref c) f = some none) : FldOk G C f := ⟨c, hm, clsB_ok hc, na⟩
end Pv
/-! zip of a tuple and a list; names that hold a list alone, tested; the sum of two lists as a new one -/
namespace Pv
open PySem PySem.Spec PyProof.Rows L2
theorem no2 {x p q : Addr} (h1 : x ≠ p) (h2 : x ≠ q) : x ∉ [p, q] := fun h => by
  rcases List.mem_cons.mp h with e | h
  · exact h1 e
  · exact h2 (List.mem_singleton.mp h)
theorem sep_of {z TI TO i1 i2 a b : Addr} (D : ZipApart z TI TO i1 i2 a b) : ZipSep2 z TI TO i1 i2 [i1, a] [i2, b] :=
  ⟨D.TIz, D.TOz, D.TITO, D.TIi1, .head _, no2 D.i1z.symm D.l1z.symm, no2 D.TOi1 D.l1TO.symm, D.TIi2, .head _, no2 D.i2z.symm D.l2z.symm, no2 D.TOi2 D.l2TO.symm, no2 D.i12 D.l2i1.symm, no2 D.i12.symm D.l1i2.symm⟩
section
variable {prog : Program} {w : World} {A : Around} {E : Value → Shared → Prop} {s : Shared}
abbrev zATL (h : Heap) (a : Addr) : Heap := h.push { cls := .type "tuple_iterator", data := .fields #[.ref a, .int 0 0] }
abbrev zBTL (h : Heap) (a b : Addr) : Heap := (zATL h a).push { cls := .type "list_iterator", data := .fields #[.ref b, .int 0 0] }
abbrev zCTL (h : Heap) (a b : Addr) : Heap := (zBTL h a b).push { cls := .type "tuple", data := .seq #[.ref h.objs.size, .ref (zATL h a).objs.size] }
abbrev zDTL (h : Heap) (a b : Addr) : Heap := (zCTL h a b).push { cls := .type "tuple", data := .seq #[.none, .none] }
abbrev zETL (h : Heap) (a b : Addr) : Heap := (zDTL h a b).push { cls := .type "zip", data := .fields #[.none, .bool false, .bool false, .ref (zBTL h a b).objs.size, .ref (zCTL h a b).objs.size] }
theorem zipNewTL (a b : Addr) (xs ys : Array Value) :
    Meets (Builtin.«zip.__new__» ⟨[.type "zip", .ref a, .ref b], []⟩) (fun _ R s => s.heap.IsTuple a xs ∧ s.heap.IsList b ys ∧ R (.ok (.ret (.ref (zDTL s.heap a b).objs.size))) { s with heap := zETL s.heap a b }) :=
  .of_wp fun prog w A R s ⟨h1, h2, h⟩ => by
    obtain ⟨hp, g, d, tk, os⟩ := s
    have hsub := sub_zip
    have k1 : Heap.IsTuple (Shared.heap ⟨hp, g, d, tk, os⟩) a xs := h1
    have k2 : Heap.IsList (Shared.heap ⟨zATL hp a, g, d, tk, os⟩) b ys := Heap.IsList.push h2 _
    wp_walk using wpAny_pyIter_tuple k1, wpAny_pyIter_list k2
    exact ⟨_, rfl, h⟩
theorem zipCallTL {a b : Addr} {xs ys : Array Value} {Q : Value → Shared → Prop} (h1 : s.heap.IsTuple a xs) (h2 : s.heap.IsList b ys)
    (h : ∀ h', IsZip h' (s.heap.objs.size + 4) (s.heap.objs.size + 2) (s.heap.objs.size + 3) .none → IsPair h' (s.heap.objs.size + 2) (.ref s.heap.objs.size) (.ref (s.heap.objs.size + 1)) → IsPair h' (s.heap.objs.size + 3) .none .none →
      h'.IsTupleIter s.heap.objs.size a 0 → h'.IsListIter (s.heap.objs.size + 1) b 0 → (∀ c o, s.heap.get? c = some o → h'.get? c = some o) → Q (.ref (s.heap.objs.size + 4)) { s with heap := h' }) : wpAny (model prog w) A (call (.type "zip") [.ref a, .ref b]) Q E s := by
  refine callType_new PySem.F.called_zip (by decide) (PySem.F.typeCall_zip_2 _ _) (PySem.F.newCall_zip_2 _ _) (fun obj => PySem.F.args_object_init_3 obj _ _) PySem.F.entry_zip_new (zipNewTL a b xs ys) ⟨h1, h2, ?_⟩
  have n1 : (zATL s.heap a).objs.size = s.heap.objs.size + 1 := Heap.size_push ..
  have n2 : (zBTL s.heap a b).objs.size = s.heap.objs.size + 2 := by rw [Heap.size_push, n1]
  have n3 : (zCTL s.heap a b).objs.size = s.heap.objs.size + 3 := by rw [Heap.size_push, n2]
  have n4 : (zDTL s.heap a b).objs.size = s.heap.objs.size + 4 := by rw [Heap.size_push, n3]
  have up1 : ∀ c o, (zATL s.heap a).get? c = some o → (zETL s.heap a b).get? c = some o := fun c o e => Heap.get?_push_of_some _ (Heap.get?_push_of_some _ (Heap.get?_push_of_some _ (Heap.get?_push_of_some _ e)))
  have o5 : (zETL s.heap a b).get? (zDTL s.heap a b).objs.size = some _ := Heap.get?_push_size _ rfl
  have o4 : (zETL s.heap a b).get? (zCTL s.heap a b).objs.size = some _ := Heap.get?_push_of_some _ (Heap.get?_push_size _ rfl)
  have o3 : (zETL s.heap a b).get? (zBTL s.heap a b).objs.size = some _ := Heap.get?_push_of_some _ (Heap.get?_push_of_some _ (Heap.get?_push_size _ rfl))
  have o2 : (zETL s.heap a b).get? (zATL s.heap a).objs.size = some _ := Heap.get?_push_of_some _ (Heap.get?_push_of_some _ (Heap.get?_push_of_some _ (Heap.get?_push_size _ rfl)))
  rw [n2, n3, n4] at o5
  rw [n1, n2] at o3
  rw [n3] at o4
  rw [n1] at o2
  show _ ∧ _
  rw [n4]
  exact ⟨⟨_, o5, rfl⟩, h _ o5 o3 o4 ⟨_, up1 _ _ (Heap.get?_push_size _ rfl), rfl, rfl⟩ ⟨_, o2, rfl, rfl⟩ fun c o x => up1 c o (Heap.get?_push_of_some _ x)⟩
end
def ItzTL (K : PySem.W.Frag) (a b : Addr) (n1 n2 : Nat) : It :=
  ⟨fun i H => ∃ (xs ys : List V) (x y : V), SqT K H a xs ∧ SqL K H b ys ∧ xs[i]? = some x ∧ ys[i]? = some y ∧ xs.length = n1 ∧ ys.length = n2,
    fun i H v H' => ∃ T x y, v = .ref T ∧ H T = none ∧ H' = upd H T (.tup [x, y]) ∧ (∀ l, SqT K H a l → l[i]? = some x) ∧ ∀ l, SqL K H b l → l[i]? = some y,
    fun i H => ∃ xs ys : List V, SqT K H a xs ∧ SqL K H b ys ∧ xs.length = n1 ∧ ys.length = n2 ∧ (n1 ≤ i ∨ n2 ≤ i)⟩
theorem turnTL {P : Program} {w : World} {K : PySem.W.Frag} {elts : List Expr} {kk : Nat} {tpos : Pos} {a b z TI TO i1 i2 : Addr} {n1 n2 : Nat} (D : ZipApart z TI TO i1 i2 a b) :
    Turn P w K (.Tuple elts kk tpos) (ItzTL K a b n1 n2) [z, TI, TO, i1, i2] z (fun i h => IsZip h z TI TO .none ∧ IsPair h TI (.ref i1) (.ref i2) ∧ (∃ x y, IsPair h TO x y) ∧ h.IsTupleIter i1 a i ∧ h.IsListIter i2 b i ∧ i ≤ n1 ∧ i ≤ n2) where
  mem := by simp
  obj := fun i h ⟨hz, hTI, ⟨x, y, hTO⟩, ⟨o1, e1, _, d1⟩, ⟨o2, e2, _, d2⟩, _, _⟩ c hc => by
    have e' : c = z ∨ c = TI ∨ c = TO ∨ c = i1 ∨ c = i2 := by simpa using hc
    rcases e' with rfl | rfl | rfl | rfl | rfl
    · exact ⟨_, hz, fun v q => nomatch q⟩
    · exact ⟨_, hTI, fun v q => nomatch q⟩
    · exact ⟨_, hTO, fun v q => nomatch q⟩
    · exact ⟨o1, e1, fun v q => by rw [d1] at q; cases q⟩
    · exact ⟨o2, e2, fun v q => by rw [d2] at q; cases q⟩
  keep := fun i h h' ⟨hz, hTI, ⟨x, y, hTO⟩, h1, h2, b1, b2⟩ k =>
    ⟨k z (by simp) _ hz, k TI (by simp) _ hTI, ⟨x, y, k TO (by simp) _ hTO⟩, h1.at fun o q => k i1 (by simp) o q, h2.at fun o q => k i2 (by simp) o q, b1, b2⟩
  item := by
    rintro X rfl rfl rfl hc i pins s σ H E I hf ⟨hz, hTI, ⟨x0, y0, hTO⟩, h1, h2, b1, b2⟩ ⟨xs, ys, x, y, hqx, hqy, hx, hy, m1, m2⟩
    obtain ⟨its, rv, p, _⟩ := I.tuple hqx
    obtain ⟨its2, rv2, p2, _⟩ := I.list hqy
    obtain ⟨u, hu, ru⟩ := rv.get hx
    obtain ⟨v, hv, rw_⟩ := rv2.get hy
    have hh : X.A.in1.handled = none := I.ok.hd hc
    have hzl : z < s.heap.objs.size := Heap.lt_size hz
    refine wpAny_pyNext_zipD2_item (sep_of D) (Draws.tuple hh i1 a D.l1i1 its.toArray) (Draws.list hh i2 b D.l2i2 its2.toArray) hz hTI hTO ⟨h1, p⟩ ⟨h2, p2.isList⟩ (by simpa using (List.getElem?_eq_some_iff.mp hu).1) (by simpa using (List.getElem?_eq_some_iff.mp hv).1) fun x1 x2 h' tk y1 y2 z' TO' h1' h2' hT hsz hk => ?_
    have ex1 : x1 = u := by simp [hu] at y1; exact y1.symm
    have ex2 : x2 = v := by simp [hv] at y2; exact y2.symm
    subst ex1
    subst ex2
    refine ⟨_, rfl, wpAny_letOwnedTupleGo_zip (s := { s with heap := h', toks := tk }) z' fun h'' z'' sb => ?_⟩
    have up : ∀ c o, c ∉ [z, TI, TO, i1, i2] → s.heap.get? c = some o → h''.get? c = some o := fun c o hb q => by
      simp only [List.mem_cons, List.not_mem_nil, or_false, not_or] at hb
      exact (sb.2 c hb.1).trans (hk c o hb.1 hb.2.2.1 hb.2.2.2.1 hb.2.2.2.2 q)
    have hT2 : h''.get? s.heap.objs.size = some { cls := .type "tuple", data := .seq #[x1, x2] } := (sb.2 _ (Nat.ne_of_gt hzl)).trans hT
    have new : ObjOk X.prog X.w (upd H s.heap.objs.size (.tup [x, y])) h'' s.heap.objs.size (.tup [x, y]) := ⟨by show 2 ≤ sizeLine; decide, [x1, x2], .cons ru (.cons rw_ .nil), ⟨_, hT2, rfl, _, rfl⟩⟩
    have I1 : Inv X pins σ (upd H s.heap.objs.size (.tup [x, y])) { s with heap := h'', toks := tk } := I.turnedNew (ch := [z, TI, TO, i1, i2]) up hf (Nat.le_refl _) new
    refine ⟨.ref s.heap.objs.size, _, I1, rfl, ⟨_, x, y, rfl, I.hok.fresh (Nat.le_refl _), rfl, fun l hl => by rw [I.tuple_inj hl hqx]; exact hx, fun l hl => by rw [I.list_inj hl hqy]; exact hy⟩, ⟨z'', ?_, ⟨x1, x2, ?_⟩, ?_, ?_, ?_, ?_⟩, fun c hcm => ?_⟩
    · exact (sb.2 _ D.TIz).trans (hk _ _ D.TIz D.TITO D.TIi1 D.TIi2 hTI)
    · exact (sb.2 _ D.TOz).trans TO'
    · exact h1'.1.at fun o q => (sb.2 _ D.i1z).trans q
    · exact h2'.1.at fun o q => (sb.2 _ D.i2z).trans q
    · have := (List.getElem?_eq_some_iff.mp hx).1
      omega
    · have := (List.getElem?_eq_some_iff.mp hy).1
      omega
    · have hlt : c < s.heap.objs.size := by
        obtain ⟨o1, e1, _⟩ := h1
        obtain ⟨o2, e2, _⟩ := h2
        have e' : c = z ∨ c = TI ∨ c = TO ∨ c = i1 ∨ c = i2 := by simpa using hcm
        rcases e' with rfl | rfl | rfl | rfl | rfl
        · exact hzl
        · exact Heap.lt_size hTI
        · exact Heap.lt_size hTO
        · exact Heap.lt_size e1
        · exact Heap.lt_size e2
      rw [upd_ne (Nat.ne_of_lt hlt)]
      exact (hf c hcm).1
  done := by
    rintro X rfl rfl rfl hc i pins s σ H E I hf ⟨hz, hTI, ⟨x0, y0, hTO⟩, h1, h2, b1, b2⟩ ⟨xs, ys, hqx, hqy, l1, l2, hend⟩
    obtain ⟨its, rv, p, _⟩ := I.tuple hqx
    obtain ⟨its2, rv2, p2, _⟩ := I.list hqy
    have hh : X.A.in1.handled = none := I.ok.hd hc
    have n1 := rv.length
    have n2 := rv2.length
    refine wpAny_pyNext_zipD2_end (sep_of D) (Draws.tuple hh i1 a D.l1i1 its.toArray) (Draws.list hh i2 b D.l2i2 its2.toArray) hz hTI hTO ⟨h1, p⟩ ⟨h2, p2.isList⟩ (by simp; omega) (by simp; omega) (by simp; omega) fun h' tk hk => ⟨rfl, I.turnedL (ch := [z, TI, TO, i1, i2]) (fun c o hb q => ?_) hf⟩
    simp only [List.mem_cons, List.not_mem_nil, or_false, not_or] at hb
    exact hk c o hb.1 hb.2.2.1 hb.2.2.2.1 hb.2.2.2.2 q
  self := fun A i s Q E st h => wpAny_pyIter_zip st.1 h
def iZipTL (K : PySem.W.Frag) (ta : TA) : TI := fun σ H R => ta σ H fun vs H1 => ∃ a b xs ys, vs = [.ref a, .ref b] ∧ SqT K H1 a xs ∧ SqL K H1 b ys ∧ R (ItzTL K a b xs.length ys.length) H1
theorem pi_zipTL {X : Cx} {e e2 : Expr} {ta : TA} {p pos tpos : Pos} {elts : List Expr} {kk : Nat} (hg : Gl X "zip") (hm : X.mg "zip" = none) (ha : PA X [e, e2] ta)
    (hs : starEach [e, e2] X.env = (false, eval e X.env) :: starEach [e2] X.env) (hpl : (backTo pos (starEach [e2] X.env)).any (·.1) = false) : PI X (.Tuple elts kk tpos) (.Call (.Name "zip" p) [e, e2] [] pos) (iZipTL X.K ta) := by
  refine ⟨fun pins s σ H R I h => Call_ (ld_blt I hg hm PyProof.Rows.boot_zip (PyProof.Rows.callWith_type1 (thn (ha.run pos pins s σ H _ I h) fun us s1 ⟨vs, H1, I1, r1, a, b, xs, ys, ex, hqx, hqy, q⟩ => ?_) hs hpl))⟩
  subst ex
  obtain rfl : us = [.ref a, .ref b] := by
    cases r1 with
    | cons r rr =>
      cases rr with
      | cons r' rr =>
        cases rr
        cases r
        cases r'
        rfl
  obtain ⟨its, rv, p1, _⟩ := I1.tuple hqx
  obtain ⟨its2, rv2, p2, _⟩ := I1.list hqy
  obtain ⟨o1, ho1, _⟩ := id (show s1.heap.IsTuple a its.toArray from p1)
  obtain ⟨o2, ho2, _⟩ := id (show s1.heap.IsList b its2.toArray from p2.isList)
  refine zipCallTL (show s1.heap.IsTuple a its.toArray from p1) (show s1.heap.IsList b its2.toArray from p2.isList) fun h' hz hTI hTO h1 h2 hk => wpAny_pyIter_zip hz ?_
  have I2 : Inv X pins σ H1 { s1 with heap := h' } := I1.kept (t' := s1.toks) hk
  refine ⟨s1.heap.objs.size + 4, [s1.heap.objs.size + 4, s1.heap.objs.size + 2, s1.heap.objs.size + 3, s1.heap.objs.size, s1.heap.objs.size + 1], _, _, H1, rfl, I2, turnTL (PySem.W.ktu_apart s1.heap.objs.size a b (Heap.lt_size ho1) (Heap.lt_size ho2)), ⟨hz, hTI, ⟨_, _, hTO⟩, h1, h2, Nat.zero_le _, Nat.zero_le _⟩, fun c hcm => ?_, q⟩
  have hle : s1.heap.objs.size ≤ c := by
    have e' : c = s1.heap.objs.size + 4 ∨ c = s1.heap.objs.size + 2 ∨ c = s1.heap.objs.size + 3 ∨ c = s1.heap.objs.size ∨ c = s1.heap.objs.size + 1 := by simpa using hcm
    rcases e' with z | z | z | z | z <;> (rw [z]; first | exact Nat.le_refl _ | exact Nat.le_add_right _ _)
  exact I1.fpOk hle (I1.hok.fresh hle)
theorem rsrc_zTL {S : Ctx} {B : Fx} {σ : L2.St} {F : Hp} {p c : Addr} {ws ws2 : List W} {vs vs2 : List V} (hx : ∀ {H : Hp}, Le F H → SqT S.g.K H p vs) (hy : ∀ {H : Hp}, Le F H → SqL S.g.K H c vs2) (rx : Rvs S.g F ws vs) (ry : Rvs S.g F ws2 vs2) : RSrc S B σ F (zipF ws ws2) (ItzTL S.g.K p c vs.length vs2.length) := by
  intro B' env F' σ' H' l a i
  have e1 := hx (l.trans a.le)
  have f1 := hy (l.trans a.le)
  refine ⟨fun e => ?_, fun w e => ?_⟩
  · rcases zipF_none e with e | e
    · exact ⟨vs, vs2, e1, f1, rfl, rfl, .inl (by rw [rx.length]; exact List.getElem?_eq_none_iff.mp e)⟩
    · exact ⟨vs, vs2, e1, f1, rfl, rfl, .inr (by rw [ry.length]; exact List.getElem?_eq_none_iff.mp e)⟩
  · obtain ⟨x, y, h1, h2, rfl⟩ := zipF_some e
    obtain ⟨v, e3, e4⟩ := rx.get h1
    obtain ⟨v2, f3, f4⟩ := ry.get h2
    refine ⟨⟨vs, vs2, v, v2, e1, f1, e3, f3, rfl, rfl⟩, fun y H2 ⟨T, u, u2, hy, hT, hH, hu, hu2⟩ => ?_⟩
    subst hy
    subst hH
    obtain rfl : v = u := Option.some.inj (e3.symm.trans (hu vs e1))
    obtain rfl : v2 = u2 := Option.some.inj (f3.symm.trans (hu2 vs2 f1))
    exact new_pair a hT (.cons (e4.le l) (.cons (f4.le l) .nil))
end Pv
namespace Pv
open PySem PySem.Spec PyProof.Rows L2
def zipW2 (ws : List W) : Option (List W) := match ws with
  | [.tup xs, .lst ys] => some (zipF xs ys)
  | ws => zipW ws
section
variable {S : Ctx} {e e2 : Expr} {g : FA} {elts : List Expr} {kk : Nat} {p p2 pos tpos : Pos}
theorem ri_zip2 (hg : S.sc.names.lookup ("zip" : Str) = some .globalImplicit) (hm : S.g.mg ("zip" : Str) = none) (ha : RA S [e, e2] g) (hs : ∀ env : Env, starEach [e, e2] env = (false, eval e env) :: starEach [e2] env := by intro _; rfl) (hpl : ∀ env : Env, (backTo pos (starEach [e2] env)).any (·.1) = false := by intro _; rfl) :
    RI S (.Tuple elts kk tpos) (.Call (.Name "zip" p) [e, e2] [] pos) (fIt zipW2 g) := by
  intro W B env F σ H R at_ q
  by_cases hx : ∃ xs ys e1, g env = .ok [.tup xs, .lst ys] e1
  · obtain ⟨xs, ys, e1, e0⟩ := hx
    refine ⟨iZipTL S.g.K (UA S W [e, e2]), fun X ok => by have z := @pi_zipTL X e e2 _ p pos tpos elts kk (gl_of ok hg) (by rw [ok.mg]; exact hm) (ua_pa (S := S) (W := W) ok) (hs _) (hpl _); rw [ok.K] at z; exact z, ha W B env F σ H _ at_ (Po.bnd q fun ws e1 vs F1 H1 ex l1 a1 r1 q1 => ?_)⟩
    rw [e0] at ex
    cases ex
    obtain ⟨ws', ew, n⟩ := q1.ofI
    cases ew
    cases r1 with
    | cons r rr =>
      cases rr with
      | cons r2 rr =>
        cases rr
        cases r with
        | tup h rs =>
          cases r2 with
          | lst h2 rs2 => exact ⟨_, _, _, _, rfl, .of (a1.le _ _ h), .of (a1.le _ _ h2), n _ _ a1 (rsrc_zTL (fun l => .of (l _ _ h)) (fun l => .of (l _ _ h2)) rs rs2)⟩
  · refine ri_zip hg hm ha hs hpl W B env F σ H R at_ ?_
    have ez : fIt zipW2 g env = fIt zipW g env := by
      unfold fIt
      cases e0 : g env with
      | ok ws e1 =>
        show Pv.ofO (zipW2 ws) e1 = Pv.ofO (zipW ws) e1
        unfold zipW2
        split
        · exact absurd ⟨_, _, _, e0⟩ hx
        · rfl
      | exc x e1 => rfl
      | bad => rfl
    rw [← ez]
    exact q
/-- a name that holds a thing alone, tested -/
def fTestN (i : Nat) : FT := fun env => match alW env i with
  | some (.lst ws) => .ok (!ws.isEmpty) env
  | some _ => .bad
  | none => fTest (fVar i) env
theorem rt_valN {x : Str} {i : Nat} (hN : S.N[i]? = some x) (hv : Vis S.sc x) (hd : (x == ("__debug__" : Str)) = false := by decide) (hcd : (x == ("__classdict__" : Str)) = false := by decide)
    (he : ∀ (env : Env) (whole : Sem Value), PySem.isTrue (.Name x p2) env whole = (do
    let v ← whole
    standAt (Expr.Name x p2).pos
    holding [v] (truthy v)) := by intro _ _; rfl) : RT S (.Name x p2) (fTestN i) := by
  intro W B env F σ H Q at_ q
  unfold fTestN at q
  split at q
  case h_3 => exact rt_val (re_var hN hv hd hcd) he W B env F σ H Q at_ q
  case h_2 => exact q.elim
  rename_i ws e0
  obtain ⟨p0, u0, s0, f0, h0, c0⟩ := at_.alone e0
  refine ⟨tTr S.g.K (tVar i), fun X ok => pt_tr ok.K (pe_var (by rw [ok.N]; exact hN) (by rw [ok.sc]; exact hv) hd hcd) (he X.env), .ref p0, s0, ?_⟩
  cases c0 with
  | lst r hl => exact ⟨_, .inl ⟨_, .of h0, by rw [isEmpty_of r]⟩, q _ F H (.refl _) at_ rfl⟩
/-- xs + ys: two lists, the sum a new one -/
def fCat (fa fb : FE) : FE := fun env => (fa env).bind fun x e1 => (fb e1).bind fun y e2 => match x, y with
  | .lst xs, .lst ys => if xs.length + ys.length ≤ sizeLine then .ok (.lst (xs ++ ys)) e2 else .bad
  | _, _ => .bad
theorem rf_cat {a b : Expr} {fa fb : FE} (ha : RE S a fa) (hb : RE S b fb) : RF S (.BinOp a .Add b pos) (fCat fa fb) := by
  intro W B env F σ H Q at_ q
  refine ⟨tOp rCat (UE S W a) (UE S W b), fun X ok => pe_op op_cat (ue_pe ok) (ue_pe ok), ?_⟩
  refine ha W B env F σ H _ at_ (Po.bndO q fun x e1 vx F1 H1 _ l1 a1 r1 q1 => ?_)
  refine hb W B e1 F1 σ H1 _ a1 (Po.bndO q1 fun y e2 vy F2 H2 _ l2 a2 r2 q2 => ?_)
  split at q2
  · split at q2
    · rename_i hl
      have r3 := r1.le l2
      cases r3 with
      | lst h1 s1 =>
        cases r2 with
        | lst h2 s2 => exact ⟨_, _, _, _, rfl, rfl, a2.le _ _ h1, a2.le _ _ h2, by rw [s1.length, s2.length]; exact hl, fun p hp => poO_lst q2 a2 (s1.append s2) (by rw [List.length_append]; exact hl) hp⟩
    · exact q2.elim
  · exact q2.elim
end
/-! ### slices of tuples, the whole among them -/
def cutX2 (x : W) (lo hi : Option Int) : Option W := match x with
  | .tup xs => some (.tup (cutW xs lo hi))
  | x => cutX x lo hi
def fSl2 (f : FE) (l u : FO) : FE := fun env => (f env).bind fun x e1 => (l e1).bind fun lo e2 => (u e2).bind fun hi e3 => ofO (cutX2 x lo hi) e3
theorem cutW_whole {xs : List W} {lo hi : Option Int} (h : HT.sIx xs.length 0 lo = 0 ∧ HT.sIx xs.length xs.length hi = xs.length) : cutW xs lo hi = xs := by
  unfold cutW
  rw [h.1, h.2, List.drop_zero, Nat.sub_zero, List.take_length]
theorem re_sl2 {S : Ctx} {e : Expr} {lo hi : Option Expr} {f : FE} {l u : FO} {p2 pos : Pos} (ha : RE S e f) (hl : RO S lo l) (hu : RO S hi u) : RE S (.Subscript e (.Slice lo hi none p2) pos) (fSl2 f l u) := by
  intro W B env F σ H Q at_ q
  refine ⟨tSl (fun x lo hi H Q => rSlA S.g.K x lo hi H Q ∨ rSlL S.g.K x lo hi H Q) (UE S W e) (UO S W lo) (UO S W hi), fun X ok => ?_, ha W B env F σ H _ at_ (Po.bnd q fun x e1 v F1 H1 _ l1 a1 r1 q1 => ?_)⟩
  · rw [← ok.K]
    exact pe_slice (SlR.or sl_tupA sl_list) (ue_pe ok) (uo_po ok) (uo_po ok)
  refine hl W B e1 F1 σ H1 _ a1 (Po.bnd q1 fun lo e2 lo' F2 H2 _ l2 a2 r2 q2 => ?_)
  obtain rfl : lo = lo' := r2
  refine hu W B e2 F2 σ H2 _ a2 (Po.bnd q2 fun hi e3 hi' F3 H3 _ l3 a3 r3 q3 => ?_)
  obtain rfl : hi = hi' := r3
  have rx := r1.le (l2.trans l3)
  obtain ⟨z, ez, n⟩ := q3.ofO
  unfold cutX2 at ez
  split at ez
  · cases ez
    cases rx with
    | tup ht hr =>
      refine .inl ⟨_, _, rfl, .of (a3.le _ _ ht), fun hw => ?_, fun hw p hp => nx_tup n a3 (hr.cut _ _) hp⟩
      have hw' := hw
      rw [hr.length] at hw'
      rw [cutW_whole hw'] at n
      exact nx_here n a3 (.tup ht hr)
  · rename_i no
    unfold cutX at ez
    split at ez
    · split at ez
      · rename_i hz
        cases ez
        cases rx with
        | lst ht hr => exact .inr ⟨_, _, rfl, .of (a3.le _ _ ht), fun p hp => nx_lst n a3 (hr.cut _ _) hp⟩
      · cases ez
    · exact absurd rfl (no _)
    · cases ez
end Pv
/-! a law's body, step by step: it says true, and what was lent is as P says -/
namespace Pv
open PySem L2
def Rd (P : W → Prop) (r : SR) : Prop := ∃ e c, r = .ret (.bl true) e ∧ lentOf e = some c ∧ P c
section
variable {P : W → Prop} {I : FI} {g : FG} {f q r r' u v v' b b' : FS} {ws ws' : List W} {w : W} {e e1 : En}
theorem Rd.seq (h : q e = .nx e1) (k : Rd P (u e1)) : Rd P (sSeq q u e) := by
  unfold sSeq
  rw [h]
  exact k
theorem Rd.fin {c : W} {r : En} (h : q e = .ret (.bl true) (some (.b c) :: r)) (p : P c) : Rd P (sSeq q u e) := by
  unfold sSeq
  rw [h]
  exact ⟨_, c, rfl, rfl, p⟩
theorem Rd.end {c : W} {r : En} (h : q e = .ret (.bl true) (some (.b c) :: r)) (p : P c) : Rd P (q e) := ⟨_, c, h, rfl, p⟩
theorem Rd.enter (hq : q = sFor I g f) (hv : v = sSeq (loopF g f ws) u) (hI : I e = .ok ws e1) (k : Rd P (v e1)) : Rd P (sSeq q u e) := by
  subst hq
  subst hv
  unfold sSeq sFor
  rw [hI]
  exact k
theorem Rd.item (hv : v = sSeq (loopF g f ws) u) (hb : b = sSeq f v') (hv' : v' = sSeq (loopF g f ws') u) (hw : ws = w :: ws') (hg : g w e = some e1) (k : Rd P (b e1)) : Rd P (v e) := by
  subst hv
  subst hb
  subst hv'
  subst hw
  unfold sSeq loopF
  rw [hg]
  unfold sSeq at k
  cases h : f e1 with
  | nx e2 => simp only [h] at k ⊢; exact k
  | ret x e2 => simp only [h] at k ⊢; exact k
  | _ => rw [h] at k; obtain ⟨_, _, z, _⟩ := k; cases z
theorem Rd.bit (hb : b = sSeq r v) (hr : r = sSeq q r') (hb' : b' = sSeq r' v) (hq : q e = .nx e1) (k : Rd P (b' e1)) : Rd P (b e) := by
  subst hb
  subst hr
  subst hb'
  show Rd P (sSeq (sSeq q r') v e)
  unfold sSeq
  rw [hq]
  exact k
theorem Rd.leave (hv : v = sSeq (loopF g f ws) u) (hw : ws = []) (k : Rd P (u e)) : Rd P (v e) := by
  subst hv
  subst hw
  exact k
theorem Rd.run {n : Nat} {c : W} {as : List W} (h : Rd P (f (startB n c as))) : ∃ c', fnB n f c as = .ok (.bl true) c' ∧ P c' := by
  obtain ⟨e, c', h, l, p⟩ := h
  refine ⟨c', ?_, p⟩
  unfold fnB
  rw [h]
  show (match lentOf e with
    | some c => Rb.ok (.bl true) c
    | none => .bad) = _
  rw [l]
/-- the law's loop, two slots of its own -/
theorem loop_cnt2 {s : Option Ev} {r : En} (h : ∀ (i : Nat) (y : Option Ev), i ≤ 100 → ∃ y', f (s :: some (.v (.int (i : Int))) :: y :: r) = .nx (s :: some (.v (.int (i : Int))) :: y' :: r)) :
    ∀ (k lo : Nat) (x y : Option Ev), lo + k ≤ 100 → ∃ x' y', loopF (gN 1) f (cnt 1 k (lo : Int)) (s :: x :: y :: r) = .nx (s :: x' :: y' :: r)
  | 0, lo, x, y, _ => ⟨x, y, rfl⟩
  | k + 1, lo, x, y, hk => by
    obtain ⟨y1, e0⟩ := h lo y (by omega)
    obtain ⟨x', y', e⟩ := loop_cnt2 h k (lo + 1) (some (.v (.int (lo : Int)))) y1 (by omega)
    refine ⟨x', y', ?_⟩
    unfold cnt loopF
    show (match f (s :: some (.v (.int (lo : Int))) :: y :: r) with
      | .nx e => loopF (gN 1) f (cnt 1 k ((lo : Int) + 1)) e
      | .cnt e => loopF (gN 1) f (cnt 1 k ((lo : Int) + 1)) e
      | .brk e => .nx e
      | r => r) = _
    rw [e0]
    exact e
end
end Pv
namespace Pv.K18
open PySem L2 Pv
def SUBL : List (Str × Str × Bool) := [("InvalidLots", "InvalidLots", true), ("InvalidLots", "InvalidOperation", false), ("InvalidLots", "InvalidPin", false), ("InvalidNumber", "InvalidLots", false), ("InvalidNumber", "InvalidOperation", false), ("InvalidNumber", "InvalidPin", false), ("InvalidOperation", "InvalidLots", false), ("InvalidOperation", "InvalidOperation", true), ("InvalidOperation", "InvalidPin", false), ("InvalidPin", "InvalidLots", false), ("InvalidPin", "InvalidOperation", false), ("InvalidPin", "InvalidPin", true), ("TooMany", "InvalidLots", false), ("TooMany", "InvalidOperation", false), ("TooMany", "InvalidPin", false)]
def SUB : Str → Str → Option Bool := subT SUBL
/-! _law_roll -/
def F__law_roll : FS := (sSeq (sIf (fTestB (fBin fGt (fIxN 0 (fC (.int 0))) (fC (.int 0)))) (sSeq (sSet (gN 2) (fBin fMod (fCall fInt (faCons (fIxN 0 (fC (.int 0))) faNil)) (fVar 1)))
  (sSeq (sSetI 0 (fBin fDiv (fIxN 0 (fC (.int 0))) (fVar 1)) (fC (.int 0)))
  (sRet (fVar 2)))) sNil)
  (sSeq (sSetI 0 (fBin fAdd (fIxN 0 (fC (.int 2))) (fC (.int 1))) (fC (.int 2)))
  (sSeq (sSet (gN 3) (fBin fMod (fCall fInt (faCons (fBin fAdd (fIxN 0 (fC (.int 1))) (fBin fMul (fC (.int 99990067)) (fIxN 0 (fC (.int 2))))) faNil)) (fC (.int 2305843009213693381))))
  (sSeq (sSet (gN 4) (fBin fAdd (fBin fMul (fBin fMod (fCall fInt (faCons (fBin fAdd (fBin fMul (fVar 3) (fVar 3)) (fBin fMul (fC (.int 89)) (fIxN 0 (fC (.int 2))))) faNil)) (fC (.int 2305843009213693343))) (fC (.int 8675309))) (fVar 3)))
  (sRet (fBin fMod (fCall fInt (faCons (fBin fDiv (fVar 4) (fC (.int 65551))) faNil)) (fVar 1)))))))
def m__law_roll : Fb := fnB 5 F__law_roll
/-! _law_pick -/
def F__law_pick : FS := (sRet (fBin subW (fVar 1) (fCallB 1 0 m__law_roll (faCons (fCall fLen (faCons (fVar 1) faNil)) faNil))))
def m__law_pick : Fb := fnB 2 F__law_pick
/-! _is_whole -/
def F__is_whole : FS := (sRet (fAndV (fCall fIsi (faCons (fVar 0) (faCons (fC (.ty "int")) faNil))) (fNotV (fCall fIsi (faCons (fVar 0) (faCons (fC (.ty "bool")) faNil))))))
def m__is_whole : Fn := fnOf 1 F__is_whole
theorem S__is_whole : Lf (fnOf 1 F__is_whole) m__is_whole := .refl _
/-! is_integer -/
def F_is_integer : FS := (sRet (fAndV (fCallN 1 m__is_whole (faCons (fVar 0) faNil)) (fBin fLt (fCall fAbs (faCons (fVar 0) faNil)) (fC (.int 1000000000000000000000000000000000000000000000000000000000000)))))
def m_is_integer : Fn := fnOf 1 F_is_integer
theorem S_is_integer : Lf (fnOf 1 F_is_integer) m_is_integer := .refl _
/-! is_within -/
def F_is_within : FS := (sRet (fAndV (fCallN 1 m_is_integer (faCons (fVar 0) faNil)) (fChain fLe fLe (fVar 1) (fVar 0) (fVar 2))))
def m_is_within : Fn := fnOf 3 F_is_within
theorem S_is_within : Lf (fnOf 3 F_is_within) m_is_within := .refl _
/-! is_thing -/
def F_is_thing : FS := (sRet (fCallN 3 m_is_within (faCons (fVar 0) (faCons (fC (.int 0)) (faCons (fC (.int 7)) faNil)))))
def m_is_thing : Fn := fnOf 1 F_is_thing
theorem S_is_thing : Lf (fnOf 1 F_is_thing) m_is_thing := .refl _
/-! are_things -/
def F_are_things : FS := (sSeq (sIf (fOrT (fNotT (fTest (fCall fIsi (faCons (fVar 0) (faCons (fC (.ty "tuple")) faNil))))) (fNotT (fTest (fCall fAll (faCons (fComp (fSeq (fVar 0)) [1] (gN 1) fYes (fCallN 1 m_is_thing (faCons (fVar 1) faNil))) faNil))))) (sRet (fC (.bl false))) sNil)
  (sRet (fCall fAll (faCons (fComp (fIt zipW2 (faCons (fVar 0) (faCons (fSl2 (fVar 0) (fPt (fC (.int 1))) fNo) faNil))) [2, 3] (gT [2, 3]) fYes (fBin fLt (fVar 2) (fVar 3))) faNil))))
def m_are_things : Fn := fnOf 4 F_are_things
theorem S_are_things : Lf (fnOf 4 F_are_things) m_are_things := .refl _
/-! is_lot -/
def F_is_lot : FS := (sRet (fAndV (fCallN 1 m_are_things (faCons (fVar 0) faNil)) (fChain fLe fLe (fC (.int 1)) (fCall fLen (faCons (fVar 0) faNil)) (fC (.int 5)))))
def m_is_lot : Fn := fnOf 1 F_is_lot
theorem S_is_lot : Lf (fnOf 1 F_is_lot) m_is_lot := .refl _
/-! _are_different_lots -/
def F__are_different_lots : FS := (sSeq (sIf (fOrT (fNotT (fTest (fCall fIsi (faCons (fVar 0) (faCons (fC (.ty "tuple")) faNil))))) (fNotT (fTestB (fChain fLe fLe (fC (.int 1)) (fCall fLen (faCons (fVar 0) faNil)) (fC (.int 40)))))) (sRet (fC (.bl false))) sNil)
  (sSeq (sIf (fNotT (fTest (fCall fAll (faCons (fComp (fSeq (fVar 0)) [1] (gN 1) fYes (fCallN 1 m_is_lot (faCons (fVar 1) faNil))) faNil)))) (sRet (fC (.bl false))) sNil)
  (sRet (fAndV (fBin fEq (fLenSet (fVar 0)) (fCall fLen (faCons (fVar 0) faNil))) (fCall fAll (faCons (fComp (fSeq (fVar 0)) [1] (gN 1) fYes (fBin fEq (fCall fLen (faCons (fVar 1) faNil)) (fCall fLen (faCons (fBin subW (fVar 0) (fC (.int 0))) faNil)))) faNil))))))
def m__are_different_lots : Fn := fnOf 2 F__are_different_lots
theorem S__are_different_lots : Lf (fnOf 2 F__are_different_lots) m__are_different_lots := .refl _
/-! is_fraction -/
def F_is_fraction : FS := (sSeq (sIf (fOrT (fNotT (fTest (fCall fIsi (faCons (fVar 0) (faCons (fC (.ty "tuple")) faNil))))) (fTestB (fBin fNe (fCall fLen (faCons (fVar 0) faNil)) (fC (.int 2))))) (sRet (fC (.bl false))) sNil)
  (sSeq (sSet (gT [1, 2]) (fVar 0))
  (sSeq (sIf (fOrT (fNotT (fTest (fCallN 1 m__is_whole (faCons (fVar 1) faNil)))) (fNotT (fTest (fCallN 1 m__is_whole (faCons (fVar 2) faNil))))) (sRet (fC (.bl false))) sNil)
  (sRet (fAndV (fBin fGe (fVar 2) (fC (.int 1))) (fBin fEq (fCall fGcd (faCons (fVar 1) (faCons (fVar 2) faNil))) (fC (.int 1))))))))
def m_is_fraction : Fn := fnOf 3 F_is_fraction
theorem S_is_fraction : Lf (fnOf 3 F_is_fraction) m_is_fraction := .refl _
/-! is_number -/
def F_is_number : FS := (sRet (fOrV (fCallN 1 m_is_integer (faCons (fVar 0) faNil)) (fCallN 1 m_is_fraction (faCons (fVar 0) faNil))))
def m_is_number : Fn := fnOf 1 F_is_number
theorem S_is_number : Lf (fnOf 1 F_is_number) m_is_number := .refl _
/-! pair_of -/
def F_pair_of : FS := (sSeq (sIf (fTest (fCall fIsi (faCons (fVar 0) (faCons (fC (.ty "tuple")) faNil)))) (sRet (fVar 0)) sNil)
  (sRet (fTup (faCons (fVar 0) (faCons (fC (.int 1)) faNil)))))
def m_pair_of : Fn := fnOf 1 F_pair_of
theorem S_pair_of : Lf (fnOf 1 F_pair_of) m_pair_of := .refl _
/-! is_above_0 -/
def F_is_above_0 : FS := (sRet (fAndV (fCallN 1 m_is_number (faCons (fVar 0) faNil)) (fBin fGt (fBin subW (fCallN 1 m_pair_of (faCons (fVar 0) faNil)) (fC (.int 0))) (fC (.int 0)))))
def m_is_above_0 : Fn := fnOf 1 F_is_above_0
theorem S_is_above_0 : Lf (fnOf 1 F_is_above_0) m_is_above_0 := .refl _
/-! is_lots_data -/
def F_is_lots_data : FS := (sSeq (sIf (fOrT (fNotT (fTest (fCall fIsi (faCons (fVar 0) (faCons (fC (.ty "dict")) faNil))))) (fNotT (fTest (fCallN 1 m__are_different_lots (faCons (fCall fTuple3 (faCons (fVar 0) faNil)) faNil))))) (sRet (fC (.bl false))) sNil)
  (sRet (fCall fAll (faCons (fComp (fVals (fVar 0)) [1] (gN 1) fYes (fCallN 1 m_is_above_0 (faCons (fVar 1) faNil))) faNil))))
def m_is_lots_data : Fn := fnOf 2 F_is_lots_data
theorem S_is_lots_data : Lf (fnOf 2 F_is_lots_data) m_is_lots_data := .refl _
/-! whole_row -/
def F_whole_row : FS := (sSeq (sOwn 1 (fComp (fSeq (fVar 0)) [4] (gN 4) fYes (fCallN 1 m_pair_of (faCons (fVar 4) faNil))))
  (sSeq (sSet (gN 2) (fC (.int 1)))
  (sSeq (sFor (fSeq (fVar 1)) (gN 3) (sSet (gN 2) (fCall fLcm (faCons (fVar 2) (faCons (fBin subW (fVar 3) (fC (.int 1))) faNil)))))
  (sRet (fTup (faCons (fComp (fSeq (fVar 1)) [5, 6] (gT [5, 6]) fYes (fBin fMul (fVar 5) (fBin fDiv (fVar 2) (fVar 6)))) (faCons (fVar 2) faNil)))))))
def m_whole_row : Fn := fnOf 7 F_whole_row
theorem S_whole_row : Lf (fnOf 7 F_whole_row) m_whole_row := .refl _
/-! common_divisor -/
def F_common_divisor : FS := (sSeq (sSet (gN 1) (fC (.int 0)))
  (sSeq (sFor (fSeq (fVar 0)) (gN 2) (sSet (gN 1) (fCall fGcd (faCons (fVar 1) (faCons (fVar 2) faNil)))))
  (sRet (fVar 1))))
def m_common_divisor : Fn := fnOf 3 F_common_divisor
theorem S_common_divisor : Lf (fnOf 3 F_common_divisor) m_common_divisor := .refl _
/-! _reduced -/
def F__reduced : FS := (sSeq (sSet (gN 2) (fCall fGcd (faCons (fVar 0) (faCons (fVar 1) faNil))))
  (sSeq (sIf (fTestB (fBin fLt (fVar 1) (fC (.int 0)))) (sSet (gN 2) (fNeg (fVar 2))) sNil)
  (sRet (fTup (faCons (fBin fDiv (fVar 0) (fVar 2)) (faCons (fBin fDiv (fVar 1) (fVar 2)) faNil))))))
def m__reduced : Fn := fnOf 3 F__reduced
theorem S__reduced : Lf (fnOf 3 F__reduced) m__reduced := .refl _
/-! fraction -/
def F_fraction : FS := (sSeq (sIf (fNotT (fTest (fCallN 1 m__is_whole (faCons (fVar 0) faNil)))) (sRaise (fMk "InvalidNumber" "given" (faCons (fVar 0) faNil))) sNil)
  (sSeq (sIf (fOrT (fNotT (fTest (fCallN 1 m__is_whole (faCons (fVar 1) faNil)))) (fTestB (fBin fEq (fVar 1) (fC (.int 0))))) (sRaise (fMk "InvalidNumber" "given" (faCons (fVar 1) faNil))) sNil)
  (sRet (fCallN 2 m__reduced (faCons (fVar 0) (faCons (fVar 1) faNil))))))
def m_fraction : Fn := fnOf 2 F_fraction
theorem S_fraction : Lf (fnOf 2 F_fraction) m_fraction := .refl _
/-! parts_of -/
def F_parts_of : FS := (sSeq (sSet (gN 1) (fLst (faCons (fTup faNil) faNil)))
  (sSeq (sFor (fSeq (fVar 0)) (gN 2) (sSet (gN 1) (fBin fAdd (fVar 1) (fComp (fSeq (fVar 1)) [3] (gN 3) fYes (fBin fAdd (fVar 3) (fTup (faCons (fVar 2) faNil)))))))
  (sRet (fVar 1))))
def m_parts_of : Fn := fnOf 4 F_parts_of
theorem S_parts_of : Lf (fnOf 4 F_parts_of) m_parts_of := .refl _
/-! _pin_sums -/
def F__pin_sums : FS := (sSeq (sOwn 2 (fC (.dic [])))
  (sSeq (sFor (fIt zipW2 (faCons (fVar 0) (faCons (fVar 1) faNil))) (gT [3, 4]) (sFor (fSeq (fCallN 1 m_parts_of (faCons (fVar 3) faNil))) (gN 5) (sSetI 2 (fBin fAdd (fGet2N 2 (fVar 5) (fC (.int 0))) (fVar 4)) (fVar 5))))
  (sSeq (sSet (gN 6) (fCall fSorted2 (faCons (fVar 2) faNil)))
  (sRet (fComp (fIt rng1W (faCons (fBin fAdd (fCall fLen (faCons (fBin subW (fVar 0) (fC (.int 0))) faNil)) (fC (.int 1))) faNil)) [7] (gN 7) fYes (fCompD (fSeq (fVar 6)) [8] (gN 8) (fTestB (fBin fEq (fCall fLen (faCons (fVar 8) faNil)) (fVar 7))) (fVar 8) (fIxN 2 (fVar 8))))))))
def m__pin_sums : Fn := fnOf 9 F__pin_sums
theorem S__pin_sums : Lf (fnOf 9 F__pin_sums) m__pin_sums := .refl _
/-! Lots.__init__ -/
def F_Lots___init__ : FS := (sSeq (sIf (fNotT (fTest (fCallN 1 m_is_lots_data (faCons (fVar 1) faNil)))) (sRaise (fMk0 "InvalidLots")) sNil)
  (sSeq (sSet (gN 2) (fCall fSorted2 (faCons (fVar 1) faNil)))
  (sSeq (sSet (gT [3, 4]) (fCallN 1 m_whole_row (faCons (fComp (fSeq (fVar 2)) [6] (gN 6) fYes (fBin subW (fVar 1) (fVar 6))) faNil)))
  (sSeq (sSet (gN 5) (fCallN 1 m_common_divisor (faCons (fVar 3) faNil)))
  (sSeq (sSetF "Lots" "_weights" 0 (fCompD (fSeq (fVar 2)) [6] (gN 6) fYes (fVar 6) (fCallN 1 m_pair_of (faCons (fBin subW (fVar 1) (fVar 6)) faNil))))
  (sSeq (sSetF "Lots" "_size" 0 (fCall fLen (faCons (fBin subW (fVar 2) (fC (.int 0))) faNil)))
  (sSeq (sSetF "Lots" "_unit" 0 (fCallN 2 m_fraction (faCons (fVar 5) (faCons (fVar 4) faNil))))
  (sSetF "Lots" "_multiples" 0 (fCallN 2 m__pin_sums (faCons (fVar 2) (faCons (fComp (fSeq (fVar 3)) [7] (gN 7) fYes (fBin fDiv (fVar 7) (fVar 5))) faNil)))))))))))
def m_Lots___init__ : Fb := fnB 8 F_Lots___init__
/-! check_lots -/
def F_check_lots : FS := (sIf (fNotT (fTest (fCall (fIsiO "Lots") (faCons (fVar 0) (faCons (fC (.gl "Lots")) faNil))))) (sRaise (fMk0 "InvalidLots")) sNil)
def m_check_lots : Fn := fnOf 1 F_check_lots
theorem S_check_lots : Lf (fnOf 1 F_check_lots) m_check_lots := .refl _
/-! Lots.size -/
def F_Lots_size : FS := (sRet (fFld "Lots" "_size" (fVar 0)))
def m_Lots_size : Fn := fnOf 1 F_Lots_size
/-! Lots.multiple_of -/
def F_Lots_multiple_of : FS := (sRet (fGet2 (fBin subW (fFld "Lots" "_multiples" (fVar 0)) (fCall fLen (faCons (fVar 1) faNil))) (fVar 1) (fC (.int 0))))
def m_Lots_multiple_of : Fn := fnOf 2 F_Lots_multiple_of
/-! is_pin -/
def F_is_pin : FS := (sSeq (sDrop (fCallN 1 m_check_lots (faCons (fVar 0) faNil)))
  (sRet (fAndV (fCallN 1 m_are_things (faCons (fVar 1) faNil)) (fAndV (fBin fLe (fCall fLen (faCons (fVar 1) faNil)) (fProp "Lots" "size" m_Lots_size (fVar 0))) (fBin fGt (fMeth "Lots" "multiple_of" 1 m_Lots_multiple_of (fVar 0) (faCons (fVar 1) faNil)) (fC (.int 0)))))))
def m_is_pin : Fn := fnOf 2 F_is_pin
theorem S_is_pin : Lf (fnOf 2 F_is_pin) m_is_pin := .refl _
/-! check_pin -/
def F_check_pin : FS := (sIf (fNotT (fTest (fCallN 2 m_is_pin (faCons (fVar 0) (faCons (fVar 1) faNil))))) (sRaise (fMk0 "InvalidPin")) sNil)
def m_check_pin : Fn := fnOf 2 F_check_pin
theorem S_check_pin : Lf (fnOf 2 F_check_pin) m_check_pin := .refl _
/-! check_near -/
def F_check_near : FS := (sSeq (sDrop (fCallN 1 m_check_lots (faCons (fVar 0) faNil)))
  (sDrop (fCallN 2 m_check_pin (faCons (fVar 0) (faCons (fVar 1) faNil)))))
def m_check_near : Fn := fnOf 2 F_check_near
theorem S_check_near : Lf (fnOf 2 F_check_near) m_check_near := .refl _
/-! check_room -/
def F_check_room : FS := (sIf (fTestB (fBin fGt (fCall fLen (faCons (fVar 1) faNil)) (fBin fSub (fProp "Lots" "size" m_Lots_size (fVar 0)) (fC (.int 2))))) (sRaise (fMk0 "InvalidOperation")) sNil)
def m_check_room : Fn := fnOf 2 F_check_room
theorem S_check_room : Lf (fnOf 2 F_check_room) m_check_room := .refl _
/-! check_place -/
def F_check_place : FS := (sSeq (sDrop (fCallN 2 m_check_near (faCons (fVar 0) (faCons (fVar 1) faNil))))
  (sDrop (fCallN 2 m_check_room (faCons (fVar 0) (faCons (fVar 1) faNil)))))
def m_check_place : Fn := fnOf 2 F_check_place
theorem S_check_place : Lf (fnOf 2 F_check_place) m_check_place := .refl _
/-! Lots.things -/
def F_Lots_things : FS := (sRet (fCall fTuple3 (faCons (fComp (fSeq (fBin subW (fFld "Lots" "_multiples" (fVar 0)) (fC (.int 1)))) [1] (gN 1) fYes (fBin subW (fVar 1) (fC (.int 0)))) faNil)))
def m_Lots_things : Fn := fnOf 2 F_Lots_things
/-! together -/
def F_together : FS := (sRet (fCall fTuple3 (faCons (fCall fSorted2 (faCons (fBin fAdd (fVar 0) (fVar 1)) faNil)) faNil)))
def m_together : Fn := fnOf 2 F_together
theorem S_together : Lf (fnOf 2 F_together) m_together := .refl _
/-! things_left -/
def F_things_left : FS := (sSeq (sIf (fTestB (fBin fEq (fCall fLen (faCons (fVar 1) faNil)) (fProp "Lots" "size" m_Lots_size (fVar 0)))) (sRet (fTup faNil)) sNil)
  (sSeq (sOwn 2 (fComp (fSeq (fProp "Lots" "things" m_Lots_things (fVar 0))) [3] (gN 3) (fTestB (fInD true (fVar 3) (fVar 1))) (fVar 3)))
  (sRet (fCall fTuple3 (faCons (fComp (fSeq (fVar 2)) [3] (gN 3) (fTestB (fBin fGt (fMeth "Lots" "multiple_of" 1 m_Lots_multiple_of (fVar 0) (faCons (fCallN 2 m_together (faCons (fVar 1) (faCons (fTup (faCons (fVar 3) faNil)) faNil))) faNil)) (fC (.int 0)))) (fVar 3)) faNil)))))
def m_things_left : Fn := fnOf 4 F_things_left
theorem S_things_left : Lf (fnOf 4 F_things_left) m_things_left := .refl _
/-! link_things -/
def F_link_things : FS := (sSeq (sDrop (fCallN 2 m_check_place (faCons (fVar 0) (faCons (fVar 1) faNil))))
  (sRet (fCallN 2 m_things_left (faCons (fVar 0) (faCons (fVar 1) faNil)))))
def m_link_things : Fn := fnOf 2 F_link_things
theorem S_link_things : Lf (fnOf 2 F_link_things) m_link_things := .refl _
/-! Lots.unit -/
def F_Lots_unit : FS := (sRet (fFld "Lots" "_unit" (fVar 0)))
def m_Lots_unit : Fn := fnOf 1 F_Lots_unit
/-! check_number -/
def F_check_number : FS := (sIf (fNotT (fTest (fCallN 1 m_is_number (faCons (fVar 0) faNil)))) (sRaise (fMk "InvalidNumber" "given" (faCons (fVar 0) faNil))) sNil)
def m_check_number : Fn := fnOf 1 F_check_number
theorem S_check_number : Lf (fnOf 1 F_check_number) m_check_number := .refl _
/-! _checked -/
def F__checked : FS := (sSeq (sDrop (fCallN 1 m_check_number (faCons (fVar 0) faNil)))
  (sRet (fCallN 1 m_pair_of (faCons (fVar 0) faNil))))
def m__checked : Fn := fnOf 1 F__checked
theorem S__checked : Lf (fnOf 1 F__checked) m__checked := .refl _
/-! multiplied -/
def F_multiplied : FS := (sSeq (sSet (gT [2, 3]) (fCallN 1 m__checked (faCons (fVar 0) faNil)))
  (sSeq (sSet (gT [4, 5]) (fCallN 1 m__checked (faCons (fVar 1) faNil)))
  (sRet (fCallN 2 m__reduced (faCons (fBin fMul (fVar 2) (fVar 4)) (faCons (fBin fMul (fVar 3) (fVar 5)) faNil))))))
def m_multiplied : Fn := fnOf 6 F_multiplied
theorem S_multiplied : Lf (fnOf 6 F_multiplied) m_multiplied := .refl _
/-! pair_weights -/
def F_pair_weights : FS := (sSeq (sDrop (fCallN 2 m_check_place (faCons (fVar 0) (faCons (fVar 1) faNil))))
  (sSeq (sSet (gN 2) (fCallN 2 m_things_left (faCons (fVar 0) (faCons (fVar 1) faNil))))
  (sSeq (sOwn 3 (fComp2 (fSeq (fVar 2)) [5, 6] (gN 5) fYes (fSeq (fVar 2)) [6] (gN 6) (fTestB (fBin fLt (fVar 5) (fVar 6))) (fTup (faCons (fVar 5) (faCons (fVar 6) faNil)))))
  (sSeq (sOwn 4 (fComp (fSeq (fVar 3)) [7] (gN 7) fYes (fTup (faCons (fVar 7) (faCons (fMeth "Lots" "multiple_of" 1 m_Lots_multiple_of (fVar 0) (faCons (fCallN 2 m_together (faCons (fVar 1) (faCons (fVar 7) faNil))) faNil)) faNil)))))
  (sRet (fCompD (fSeq (fVar 4)) [7, 8] (gT [7, 8]) (fTestB (fBin fGt (fVar 8) (fC (.int 0)))) (fVar 7) (fCallN 2 m_multiplied (faCons (fTup (faCons (fVar 8) (faCons (fC (.int 1)) faNil))) (faCons (fProp "Lots" "unit" m_Lots_unit (fVar 0)) faNil)))))))))
def m_pair_weights : Fn := fnOf 9 F_pair_weights
theorem S_pair_weights : Lf (fnOf 9 F_pair_weights) m_pair_weights := .refl _
/-! pair_rows -/
def F_pair_rows : FS := (sSeq (sSet (gN 2) (fCallN 2 m_things_left (faCons (fVar 0) (faCons (fVar 1) faNil))))
  (sRet (fComp (fSeq (fVar 2)) [3] (gN 3) fYes (fComp (fSeq (fVar 2)) [4] (gN 4) fYes (fIf (fTestB (fBin fEq (fVar 3) (fVar 4))) (fC (.int 0)) (fMeth "Lots" "multiple_of" 1 m_Lots_multiple_of (fVar 0) (faCons (fCallN 2 m_together (faCons (fVar 1) (faCons (fTup (faCons (fVar 3) (faCons (fVar 4) faNil))) faNil))) faNil)))))))
def m_pair_rows : Fn := fnOf 5 F_pair_rows
theorem S_pair_rows : Lf (fnOf 5 F_pair_rows) m_pair_rows := .refl _
/-! masses -/
def F_masses : FS := (sSeq (sDrop (fCallN 2 m_check_place (faCons (fVar 0) (faCons (fVar 1) faNil))))
  (sSeq (sSet (gN 2) (fCallN 2 m_pair_rows (faCons (fVar 0) (faCons (fVar 1) faNil))))
  (sRet (fCompD (fIt zipW2 (faCons (fCallN 2 m_things_left (faCons (fVar 0) (faCons (fVar 1) faNil))) (faCons (fVar 2) faNil))) [3, 4] (gT [3, 4]) fYes (fVar 3) (fCallN 2 m_multiplied (faCons (fTup (faCons (fCall fSum (faCons (fVar 4) faNil)) (faCons (fC (.int 1)) faNil))) (faCons (fProp "Lots" "unit" m_Lots_unit (fVar 0)) faNil)))))))
def m_masses : Fn := fnOf 5 F_masses
theorem S_masses : Lf (fnOf 5 F_masses) m_masses := .refl _
/-! local_walk -/
def F_local_walk : FS := (sSeq (sDrop (fCallN 2 m_check_place (faCons (fVar 0) (faCons (fVar 1) faNil))))
  (sRet (fCall fTuple3 (faCons (fComp (fSeq (fCallN 2 m_pair_rows (faCons (fVar 0) (faCons (fVar 1) faNil)))) [2] (gN 2) fYes (fCall fTuple3 (faCons (fComp (fSeq (fVar 2)) [3] (gN 3) fYes (fCallN 2 m_fraction (faCons (fVar 3) (faCons (fCall fSum (faCons (fVar 2) faNil)) faNil)))) faNil))) faNil))))
def m_local_walk : Fn := fnOf 4 F_local_walk
theorem S_local_walk : Lf (fnOf 4 F_local_walk) m_local_walk := .refl _
/-! walk_shares -/
def F_walk_shares : FS := (sSeq (sDrop (fCallN 2 m_check_place (faCons (fVar 0) (faCons (fVar 1) faNil))))
  (sSeq (sSet (gN 2) (fComp (fSeq (fCallN 2 m_pair_rows (faCons (fVar 0) (faCons (fVar 1) faNil)))) [3] (gN 3) fYes (fCall fSum (faCons (fVar 3) faNil))))
  (sRet (fCall fTuple3 (faCons (fComp (fSeq (fVar 2)) [4] (gN 4) fYes (fCallN 2 m_fraction (faCons (fVar 4) (faCons (fCall fSum (faCons (fVar 2) faNil)) faNil)))) faNil)))))
def m_walk_shares : Fn := fnOf 5 F_walk_shares
theorem S_walk_shares : Lf (fnOf 5 F_walk_shares) m_walk_shares := .refl _
/-! _reached -/
def F__reached : FS := (sSeq (sOwn 2 (fDisp (fpCons (fVar 1) (fC (.bl true)) fpNil)))
  (sSeq (sOwn 3 (fLst (faCons (fVar 1) faNil)))
  (sSeq (sWhile (fTestN 3) (sSeq (sSet (gN 4) (fBin subW (fVar 0) (fPop 3)))
  (sSeq (sOwn 5 (fComp (fIt enumW (faCons (fVar 4) faNil)) [7, 8] (gT [7, 8]) (fAndT (fTestB (fBin fNe (fVar 8) (fC (.int 0)))) (fTestB (fInN true (fVar 7) 2))) (fVar 7)))
  (sSeq (sFor (fSeq (fVar 5)) (gN 6) (sSetI 2 (fC (.bl true)) (fVar 6)))
  (sOwn 3 (fCat (fVar 3) (fVar 5)))))))
  (sRet (fCall fSorted2 (faCons (fVar 2) faNil))))))
def m__reached : Fn := fnOf 9 F__reached
theorem S__reached : Lf (fnOf 9 F__reached) m__reached := .refl _
/-! pieces_of_rows -/
def F_pieces_of_rows : FS := (sSeq (sOwn 1 (fLst faNil))
  (sSeq (sSet (gN 2) (fCall fList3 (faCons (fCall fRgV (faCons (fCall fLen (faCons (fVar 0) faNil)) faNil)) faNil)))
  (sSeq (sWhile (fTest (fVar 2)) (sSeq (sSet (gN 3) (fCallN 2 m__reached (faCons (fVar 0) (faCons (fBin subW (fVar 2) (fC (.int 0))) faNil))))
  (sSeq (sDrop (fMet 1 hApp (fVar 3)))
  (sOwn 2 (fComp (fSeq (fVar 2)) [4] (gN 4) (fTestB (fInD true (fVar 4) (fVar 3))) (fVar 4))))))
  (sRet (fVar 1)))))
def m_pieces_of_rows : Fn := fnOf 5 F_pieces_of_rows
theorem S_pieces_of_rows : Lf (fnOf 5 F_pieces_of_rows) m_pieces_of_rows := .refl _
/-! pieces -/
def F_pieces : FS := (sSeq (sDrop (fCallN 2 m_check_place (faCons (fVar 0) (faCons (fVar 1) faNil))))
  (sSeq (sSet (gN 2) (fCallN 2 m_things_left (faCons (fVar 0) (faCons (fVar 1) faNil))))
  (sSeq (sSet (gN 3) (fCallN 1 m_pieces_of_rows (faCons (fCallN 2 m_pair_rows (faCons (fVar 0) (faCons (fVar 1) faNil))) faNil)))
  (sRet (fCall fTuple3 (faCons (fComp (fSeq (fVar 3)) [4] (gN 4) fYes (fCall fTuple3 (faCons (fComp (fSeq (fVar 4)) [5] (gN 5) fYes (fBin subW (fVar 2) (fVar 5))) faNil))) faNil))))))
def m_pieces : Fn := fnOf 6 F_pieces
theorem S_pieces : Lf (fnOf 6 F_pieces) m_pieces := .refl _
/-! hangs_together -/
def F_hangs_together : FS := (sRet (fBin fEq (fCall fLen (faCons (fCallN 2 m_pieces (faCons (fVar 0) (faCons (fVar 1) faNil))) faNil)) (fC (.int 1))))
def m_hangs_together : Fn := fnOf 2 F_hangs_together
theorem S_hangs_together : Lf (fnOf 2 F_hangs_together) m_hangs_together := .refl _
/-! parting -/
def F_parting : FS := (sSeq (sSet (gN 2) (fCallN 2 m_pieces (faCons (fVar 0) (faCons (fVar 1) faNil))))
  (sRet (fIf (fTestB (fBin fEq (fCall fLen (faCons (fVar 2) faNil)) (fC (.int 1)))) (fC .non) (fBin subW (fVar 2) (fC (.int 0))))))
def m_parting : Fn := fnOf 3 F_parting
theorem S_parting : Lf (fnOf 3 F_parting) m_parting := .refl _
/-! is_parting -/
def F_is_parting : FS := (sSeq (sDrop (fCallN 2 m_check_place (faCons (fVar 0) (faCons (fVar 1) faNil))))
  (sSeq (sIf (fOrT (fNotT (fTest (fCallN 1 m_are_things (faCons (fVar 2) faNil)))) (fTestB (fBin fEq (fCall fLen (faCons (fVar 2) faNil)) (fC (.int 0))))) (sRet (fC (.bl false))) sNil)
  (sSeq (sSet (gN 3) (fCallN 2 m_things_left (faCons (fVar 0) (faCons (fVar 1) faNil))))
  (sSeq (sSet (gN 4) (fComp (fSeq (fVar 3)) [5] (gN 5) (fTestB (fInD true (fVar 5) (fVar 2))) (fVar 5)))
  (sSeq (sIf (fOrT (fTestB (fBin fEq (fCall fLen (faCons (fVar 4) faNil)) (fC (.int 0)))) (fTestB (fBin fNe (fBin fAdd (fCall fLen (faCons (fVar 4) faNil)) (fCall fLen (faCons (fVar 2) faNil))) (fCall fLen (faCons (fVar 3) faNil))))) (sRet (fC (.bl false))) sNil)
  (sRet (fCall fAll (faCons (fComp2 (fSeq (fVar 2)) [5, 6] (gN 5) fYes (fSeq (fVar 4)) [6] (gN 6) fYes (fBin fEq (fMeth "Lots" "multiple_of" 1 m_Lots_multiple_of (fVar 0) (faCons (fCallN 2 m_together (faCons (fVar 1) (faCons (fTup (faCons (fVar 5) (faCons (fVar 6) faNil))) faNil))) faNil)) (fC (.int 0)))) faNil))))))))
def m_is_parting : Fn := fnOf 7 F_is_parting
theorem S_is_parting : Lf (fnOf 7 F_is_parting) m_is_parting := .refl _
/-! _law_met -/
def ks__law_met : List Kr := [⟨"InvalidLots", none, (yTup (yCons (yC (.str "refused")) (yCons (yC (.str "lots")) yNil)))⟩, ⟨"InvalidPin", none, (yTup (yCons (yC (.str "refused")) (yCons (yC (.str "pin")) yNil)))⟩, ⟨"InvalidOperation", none, (yTup (yCons (yC (.str "refused")) (yCons (yC (.str "operation")) yNil)))⟩]
def c__law_met : W := .tup [.str "fine"]
/-! _law_right -/
def Q_law_right_1_L : FE := (fLst (faCons (fC .non) (faCons (fC (.int 0)) (faCons (fC (.dic [])) (faCons (fDisp (fpCons (fTup (faCons (fC (.int 0)) (faCons (fC (.int 1)) faNil))) (fC (.int 1)) fpNil)) (faCons (fC (.str "lots")) (faCons (fLst faNil) (faCons (fTup faNil) faNil))))))))
def Q_law_right_1 : FS := (sSet (gN 1) (fCallB 1 0 m__law_pick (faCons Q_law_right_1_L faNil)))
def Q_law_right_2_L : FE := (fLst (faCons (fC .non) (faCons (fC (.int 0)) (faCons (fC (.str "0")) (faCons (fLst (faCons (fC (.int 0)) faNil)) (faCons (fTup (faCons (fC (.int 4)) faNil)) (faCons (fTup (faCons (fC (.int 1)) (faCons (fC (.int 0)) faNil))) (faCons (fTup (faCons (fC (.int 0)) (faCons (fC (.int 0)) faNil))) (faCons (fTup (faCons (fC (.bl true)) faNil)) (faCons (fTup (faCons (fC (.str "0")) faNil)) (faCons (fTup (faCons (fNeg (fC (.int 1))) faNil)) (faCons (fTup (faCons (fC (.int 0)) (faCons (fC (.int 1)) (faCons (fC (.int 2)) (faCons (fC (.int 3)) faNil))))) (faCons (fC (.dic [])) (faCons (fTup (faCons (fTup (faCons (fC (.int 0)) faNil)) faNil)) (faCons (fTup (faCons (fC .non) faNil)) (faCons (fTup (faCons (fC (.int 1)) (faCons (fC (.int 4)) faNil))) faNil))))))))))))))))
def Q_law_right_2 : FS := (sSet (gN 2) (fCallB 1 0 m__law_pick (faCons Q_law_right_2_L faNil)))
def Q_law_right_3_L : FE := (fLst (faCons (fTup (faCons (fC (.int 0)) (faCons (fC (.int 1)) faNil))) (faCons (fTup (faCons (fC (.int 2)) (faCons (fC (.int 3)) faNil))) (faCons (fTup (faCons (fC (.int 0)) (faCons (fC (.int 1)) (faCons (fC (.int 2)) faNil)))) (faCons (fTup (faCons (fC (.int 0)) (faCons (fC (.int 2)) (faCons (fC (.int 3)) faNil)))) (faCons (fTup (faCons (fC (.int 1)) (faCons (fC (.int 2)) faNil))) faNil))))))
def Q_law_right_3 : FS := (sSet (gN 3) (fCallB 1 0 m__law_pick (faCons Q_law_right_3_L faNil)))
def Q_law_right_4 : FS := (sSet (gN 4) (fMake 1 "Lots" m_Lots___init__ (faCons (fDisp (fpCons (fTup (faCons (fC (.int 0)) (faCons (fC (.int 1)) (faCons (fC (.int 2)) faNil)))) (fC (.int 1)) (fpCons (fTup (faCons (fC (.int 0)) (faCons (fC (.int 1)) (faCons (fC (.int 3)) faNil)))) (fC (.int 2)) (fpCons (fTup (faCons (fC (.int 0)) (faCons (fC (.int 2)) (faCons (fC (.int 3)) faNil)))) (fTup (faCons (fC (.int 1)) (faCons (fC (.int 2)) faNil))) fpNil)))) faNil)))
def Q_law_right_5 : FS := (sOwn 5 (fLst faNil))
def Q_law_right_6b_1 : FS := (sDrop (fMet 5 hApp (fHear SUB ks__law_met c__law_met (fCallV (tabF [("link_things", 2, m_link_things), ("pair_weights", 2, m_pair_weights), ("masses", 2, m_masses), ("local_walk", 2, m_local_walk), ("walk_shares", 2, m_walk_shares), ("hangs_together", 2, m_hangs_together), ("pieces", 2, m_pieces), ("parting", 2, m_parting)]) 6 (faCons (fVar 1) (faCons (fVar 2) faNil))))))
def Q_law_right_6b_2 : FS := (sDrop (fMet 5 hApp (fHear SUB ks__law_met c__law_met (fCallV (tabF [("link_things", 2, m_link_things), ("pair_weights", 2, m_pair_weights), ("masses", 2, m_masses), ("local_walk", 2, m_local_walk), ("walk_shares", 2, m_walk_shares), ("hangs_together", 2, m_hangs_together), ("pieces", 2, m_pieces), ("parting", 2, m_parting)]) 6 (faCons (fVar 4) (faCons (fVar 2) faNil))))))
def Q_law_right_6b_3 : FS := (sDrop (fMet 5 hApp (fHear SUB ks__law_met c__law_met (fCallV (tabF [("link_things", 2, m_link_things), ("pair_weights", 2, m_pair_weights), ("masses", 2, m_masses), ("local_walk", 2, m_local_walk), ("walk_shares", 2, m_walk_shares), ("hangs_together", 2, m_hangs_together), ("pieces", 2, m_pieces), ("parting", 2, m_parting)]) 6 (faCons (fVar 4) (faCons (fVar 3) faNil))))))
def Q_law_right_6b_4 : FS := (sDrop (fMet 5 hApp (fHear SUB ks__law_met c__law_met (fCallV (tabF [("link_things", 2, m_link_things), ("pair_weights", 2, m_pair_weights), ("masses", 2, m_masses), ("local_walk", 2, m_local_walk), ("walk_shares", 2, m_walk_shares), ("hangs_together", 2, m_hangs_together), ("pieces", 2, m_pieces), ("parting", 2, m_parting)]) 6 (faCons (fVar 4) (faCons (fTup (faCons (fC (.int 0)) faNil)) faNil))))))
def Q_law_right_6r_4 : FS := Q_law_right_6b_4
def Q_law_right_6r_3 : FS := sSeq Q_law_right_6b_3 Q_law_right_6r_4
def Q_law_right_6r_2 : FS := sSeq Q_law_right_6b_2 Q_law_right_6r_3
def Q_law_right_6r_1 : FS := sSeq Q_law_right_6b_1 Q_law_right_6r_2
def Q_law_right_6_I : FI := (fSeq (fTup (faCons (fC (.gl "link_things")) (faCons (fC (.gl "pair_weights")) (faCons (fC (.gl "masses")) (faCons (fC (.gl "local_walk")) (faCons (fC (.gl "walk_shares")) (faCons (fC (.gl "hangs_together")) (faCons (fC (.gl "pieces")) (faCons (fC (.gl "parting")) faNil))))))))))
def Q_law_right_6_w : List W := match Q_law_right_6_I [] with
  | .ok ws _ => ws
  | _ => []
def Q_law_right_6 : FS := sFor Q_law_right_6_I (gN 6) Q_law_right_6r_1
def Q_law_right_7 : FS := (sDrop (fMet 5 hApp (fHear SUB ks__law_met c__law_met (fCallN 3 m_is_parting (faCons (fVar 1) (faCons (fVar 2) (faCons (fC .non) faNil)))))))
def Q_law_right_8 : FS := (sDrop (fMet 5 hApp (fHear SUB ks__law_met c__law_met (fCallN 3 m_is_parting (faCons (fVar 4) (faCons (fVar 2) (faCons (fC .non) faNil)))))))
def Q_law_right_9 : FS := (sDrop (fMet 5 hApp (fHear SUB ks__law_met c__law_met (fCallN 3 m_is_parting (faCons (fVar 4) (faCons (fVar 3) (faCons (fC .non) faNil)))))))
def Q_law_right_10 : FS := (sDrop (fMet 5 hApp (fHear SUB ks__law_met c__law_met (fCallN 3 m_is_parting (faCons (fVar 4) (faCons (fTup (faCons (fC (.int 2)) faNil)) (faCons (fC .non) faNil)))))))
def Q_law_right_11 : FS := (sRet (fBin fEq (fVar 5) (fBin fMul (fLst (faCons (fTup (faCons (fC (.str "refused")) (faCons (fC (.str "lots")) faNil))) (faCons (fTup (faCons (fC (.str "refused")) (faCons (fC (.str "pin")) faNil))) (faCons (fTup (faCons (fC (.str "refused")) (faCons (fC (.str "operation")) faNil))) (faCons (fTup (faCons (fC (.str "fine")) faNil)) faNil))))) (fC (.int 9)))))
def U_law_right_11 : FS := Q_law_right_11
def U_law_right_10 : FS := sSeq Q_law_right_10 U_law_right_11
def U_law_right_9 : FS := sSeq Q_law_right_9 U_law_right_10
def U_law_right_8 : FS := sSeq Q_law_right_8 U_law_right_9
def U_law_right_7 : FS := sSeq Q_law_right_7 U_law_right_8
def U_law_right_6 : FS := sSeq Q_law_right_6 U_law_right_7
def U_law_right_6L_8 : FS := sSeq (loopF (gN 6) Q_law_right_6r_1 (Q_law_right_6_w.drop 8)) U_law_right_7
def U_law_right_6L_7 : FS := sSeq (loopF (gN 6) Q_law_right_6r_1 (Q_law_right_6_w.drop 7)) U_law_right_7
def U_law_right_6B_7_1 : FS := sSeq Q_law_right_6r_1 U_law_right_6L_8
def U_law_right_6B_7_2 : FS := sSeq Q_law_right_6r_2 U_law_right_6L_8
def U_law_right_6B_7_3 : FS := sSeq Q_law_right_6r_3 U_law_right_6L_8
def U_law_right_6B_7_4 : FS := sSeq Q_law_right_6r_4 U_law_right_6L_8
def U_law_right_6L_6 : FS := sSeq (loopF (gN 6) Q_law_right_6r_1 (Q_law_right_6_w.drop 6)) U_law_right_7
def U_law_right_6B_6_1 : FS := sSeq Q_law_right_6r_1 U_law_right_6L_7
def U_law_right_6B_6_2 : FS := sSeq Q_law_right_6r_2 U_law_right_6L_7
def U_law_right_6B_6_3 : FS := sSeq Q_law_right_6r_3 U_law_right_6L_7
def U_law_right_6B_6_4 : FS := sSeq Q_law_right_6r_4 U_law_right_6L_7
def U_law_right_6L_5 : FS := sSeq (loopF (gN 6) Q_law_right_6r_1 (Q_law_right_6_w.drop 5)) U_law_right_7
def U_law_right_6B_5_1 : FS := sSeq Q_law_right_6r_1 U_law_right_6L_6
def U_law_right_6B_5_2 : FS := sSeq Q_law_right_6r_2 U_law_right_6L_6
def U_law_right_6B_5_3 : FS := sSeq Q_law_right_6r_3 U_law_right_6L_6
def U_law_right_6B_5_4 : FS := sSeq Q_law_right_6r_4 U_law_right_6L_6
def U_law_right_6L_4 : FS := sSeq (loopF (gN 6) Q_law_right_6r_1 (Q_law_right_6_w.drop 4)) U_law_right_7
def U_law_right_6B_4_1 : FS := sSeq Q_law_right_6r_1 U_law_right_6L_5
def U_law_right_6B_4_2 : FS := sSeq Q_law_right_6r_2 U_law_right_6L_5
def U_law_right_6B_4_3 : FS := sSeq Q_law_right_6r_3 U_law_right_6L_5
def U_law_right_6B_4_4 : FS := sSeq Q_law_right_6r_4 U_law_right_6L_5
def U_law_right_6L_3 : FS := sSeq (loopF (gN 6) Q_law_right_6r_1 (Q_law_right_6_w.drop 3)) U_law_right_7
def U_law_right_6B_3_1 : FS := sSeq Q_law_right_6r_1 U_law_right_6L_4
def U_law_right_6B_3_2 : FS := sSeq Q_law_right_6r_2 U_law_right_6L_4
def U_law_right_6B_3_3 : FS := sSeq Q_law_right_6r_3 U_law_right_6L_4
def U_law_right_6B_3_4 : FS := sSeq Q_law_right_6r_4 U_law_right_6L_4
def U_law_right_6L_2 : FS := sSeq (loopF (gN 6) Q_law_right_6r_1 (Q_law_right_6_w.drop 2)) U_law_right_7
def U_law_right_6B_2_1 : FS := sSeq Q_law_right_6r_1 U_law_right_6L_3
def U_law_right_6B_2_2 : FS := sSeq Q_law_right_6r_2 U_law_right_6L_3
def U_law_right_6B_2_3 : FS := sSeq Q_law_right_6r_3 U_law_right_6L_3
def U_law_right_6B_2_4 : FS := sSeq Q_law_right_6r_4 U_law_right_6L_3
def U_law_right_6L_1 : FS := sSeq (loopF (gN 6) Q_law_right_6r_1 (Q_law_right_6_w.drop 1)) U_law_right_7
def U_law_right_6B_1_1 : FS := sSeq Q_law_right_6r_1 U_law_right_6L_2
def U_law_right_6B_1_2 : FS := sSeq Q_law_right_6r_2 U_law_right_6L_2
def U_law_right_6B_1_3 : FS := sSeq Q_law_right_6r_3 U_law_right_6L_2
def U_law_right_6B_1_4 : FS := sSeq Q_law_right_6r_4 U_law_right_6L_2
def U_law_right_6L_0 : FS := sSeq (loopF (gN 6) Q_law_right_6r_1 (Q_law_right_6_w.drop 0)) U_law_right_7
def U_law_right_6B_0_1 : FS := sSeq Q_law_right_6r_1 U_law_right_6L_1
def U_law_right_6B_0_2 : FS := sSeq Q_law_right_6r_2 U_law_right_6L_1
def U_law_right_6B_0_3 : FS := sSeq Q_law_right_6r_3 U_law_right_6L_1
def U_law_right_6B_0_4 : FS := sSeq Q_law_right_6r_4 U_law_right_6L_1
def U_law_right_5 : FS := sSeq Q_law_right_5 U_law_right_6
def U_law_right_4 : FS := sSeq Q_law_right_4 U_law_right_5
def U_law_right_3 : FS := sSeq Q_law_right_3 U_law_right_4
def U_law_right_2 : FS := sSeq Q_law_right_2 U_law_right_3
def U_law_right_1 : FS := sSeq Q_law_right_1 U_law_right_2
def F__law_right : FS := (sSeq (sSet (gN 1) (fCallB 1 0 m__law_pick (faCons (fLst (faCons (fC .non) (faCons (fC (.int 0)) (faCons (fC (.dic [])) (faCons (fDisp (fpCons (fTup (faCons (fC (.int 0)) (faCons (fC (.int 1)) faNil))) (fC (.int 1)) fpNil)) (faCons (fC (.str "lots")) (faCons (fLst faNil) (faCons (fTup faNil) faNil)))))))) faNil)))
  (sSeq (sSet (gN 2) (fCallB 1 0 m__law_pick (faCons (fLst (faCons (fC .non) (faCons (fC (.int 0)) (faCons (fC (.str "0")) (faCons (fLst (faCons (fC (.int 0)) faNil)) (faCons (fTup (faCons (fC (.int 4)) faNil)) (faCons (fTup (faCons (fC (.int 1)) (faCons (fC (.int 0)) faNil))) (faCons (fTup (faCons (fC (.int 0)) (faCons (fC (.int 0)) faNil))) (faCons (fTup (faCons (fC (.bl true)) faNil)) (faCons (fTup (faCons (fC (.str "0")) faNil)) (faCons (fTup (faCons (fNeg (fC (.int 1))) faNil)) (faCons (fTup (faCons (fC (.int 0)) (faCons (fC (.int 1)) (faCons (fC (.int 2)) (faCons (fC (.int 3)) faNil))))) (faCons (fC (.dic [])) (faCons (fTup (faCons (fTup (faCons (fC (.int 0)) faNil)) faNil)) (faCons (fTup (faCons (fC .non) faNil)) (faCons (fTup (faCons (fC (.int 1)) (faCons (fC (.int 4)) faNil))) faNil)))))))))))))))) faNil)))
  (sSeq (sSet (gN 3) (fCallB 1 0 m__law_pick (faCons (fLst (faCons (fTup (faCons (fC (.int 0)) (faCons (fC (.int 1)) faNil))) (faCons (fTup (faCons (fC (.int 2)) (faCons (fC (.int 3)) faNil))) (faCons (fTup (faCons (fC (.int 0)) (faCons (fC (.int 1)) (faCons (fC (.int 2)) faNil)))) (faCons (fTup (faCons (fC (.int 0)) (faCons (fC (.int 2)) (faCons (fC (.int 3)) faNil)))) (faCons (fTup (faCons (fC (.int 1)) (faCons (fC (.int 2)) faNil))) faNil)))))) faNil)))
  (sSeq (sSet (gN 4) (fMake 1 "Lots" m_Lots___init__ (faCons (fDisp (fpCons (fTup (faCons (fC (.int 0)) (faCons (fC (.int 1)) (faCons (fC (.int 2)) faNil)))) (fC (.int 1)) (fpCons (fTup (faCons (fC (.int 0)) (faCons (fC (.int 1)) (faCons (fC (.int 3)) faNil)))) (fC (.int 2)) (fpCons (fTup (faCons (fC (.int 0)) (faCons (fC (.int 2)) (faCons (fC (.int 3)) faNil)))) (fTup (faCons (fC (.int 1)) (faCons (fC (.int 2)) faNil))) fpNil)))) faNil)))
  (sSeq (sOwn 5 (fLst faNil))
  (sSeq (sFor (fSeq (fTup (faCons (fC (.gl "link_things")) (faCons (fC (.gl "pair_weights")) (faCons (fC (.gl "masses")) (faCons (fC (.gl "local_walk")) (faCons (fC (.gl "walk_shares")) (faCons (fC (.gl "hangs_together")) (faCons (fC (.gl "pieces")) (faCons (fC (.gl "parting")) faNil)))))))))) (gN 6) (sSeq (sDrop (fMet 5 hApp (fHear SUB ks__law_met c__law_met (fCallV (tabF [("link_things", 2, m_link_things), ("pair_weights", 2, m_pair_weights), ("masses", 2, m_masses), ("local_walk", 2, m_local_walk), ("walk_shares", 2, m_walk_shares), ("hangs_together", 2, m_hangs_together), ("pieces", 2, m_pieces), ("parting", 2, m_parting)]) 6 (faCons (fVar 1) (faCons (fVar 2) faNil))))))
  (sSeq (sDrop (fMet 5 hApp (fHear SUB ks__law_met c__law_met (fCallV (tabF [("link_things", 2, m_link_things), ("pair_weights", 2, m_pair_weights), ("masses", 2, m_masses), ("local_walk", 2, m_local_walk), ("walk_shares", 2, m_walk_shares), ("hangs_together", 2, m_hangs_together), ("pieces", 2, m_pieces), ("parting", 2, m_parting)]) 6 (faCons (fVar 4) (faCons (fVar 2) faNil))))))
  (sSeq (sDrop (fMet 5 hApp (fHear SUB ks__law_met c__law_met (fCallV (tabF [("link_things", 2, m_link_things), ("pair_weights", 2, m_pair_weights), ("masses", 2, m_masses), ("local_walk", 2, m_local_walk), ("walk_shares", 2, m_walk_shares), ("hangs_together", 2, m_hangs_together), ("pieces", 2, m_pieces), ("parting", 2, m_parting)]) 6 (faCons (fVar 4) (faCons (fVar 3) faNil))))))
  (sDrop (fMet 5 hApp (fHear SUB ks__law_met c__law_met (fCallV (tabF [("link_things", 2, m_link_things), ("pair_weights", 2, m_pair_weights), ("masses", 2, m_masses), ("local_walk", 2, m_local_walk), ("walk_shares", 2, m_walk_shares), ("hangs_together", 2, m_hangs_together), ("pieces", 2, m_pieces), ("parting", 2, m_parting)]) 6 (faCons (fVar 4) (faCons (fTup (faCons (fC (.int 0)) faNil)) faNil))))))))))
  (sSeq (sDrop (fMet 5 hApp (fHear SUB ks__law_met c__law_met (fCallN 3 m_is_parting (faCons (fVar 1) (faCons (fVar 2) (faCons (fC .non) faNil)))))))
  (sSeq (sDrop (fMet 5 hApp (fHear SUB ks__law_met c__law_met (fCallN 3 m_is_parting (faCons (fVar 4) (faCons (fVar 2) (faCons (fC .non) faNil)))))))
  (sSeq (sDrop (fMet 5 hApp (fHear SUB ks__law_met c__law_met (fCallN 3 m_is_parting (faCons (fVar 4) (faCons (fVar 3) (faCons (fC .non) faNil)))))))
  (sSeq (sDrop (fMet 5 hApp (fHear SUB ks__law_met c__law_met (fCallN 3 m_is_parting (faCons (fVar 4) (faCons (fTup (faCons (fC (.int 2)) faNil)) (faCons (fC .non) faNil)))))))
  (sRet (fBin fEq (fVar 5) (fBin fMul (fLst (faCons (fTup (faCons (fC (.str "refused")) (faCons (fC (.str "lots")) faNil))) (faCons (fTup (faCons (fC (.str "refused")) (faCons (fC (.str "pin")) faNil))) (faCons (fTup (faCons (fC (.str "refused")) (faCons (fC (.str "operation")) faNil))) (faCons (fTup (faCons (fC (.str "fine")) faNil)) faNil))))) (fC (.int 9)))))))))))))))
theorem FU__law_right : F__law_right = U_law_right_1 := rfl
def m__law_right : Fb := fnB 7 F__law_right
/-! _law_dice -/
def F__law_dice : FS := (sSeq (sSet (gN 2) (fIf (fTestB (fBin fLt (fVar 1) (fCall fLen (faCons (fVar 0) faNil)))) (fCall fInt (faCons (fBin subW (fVar 0) (fVar 1)) faNil)) (fBin fAdd (fBin fMul (fC (.int 89)) (fVar 1)) (fC (.int 53)))))
  (sSeq (sSet (gN 3) (fBin fMod (fCall fMaxA (faCons (fC (.int 0)) (faCons (fBin fSub (fCall fAbs (faCons (fVar 2) faNil)) (fBin fPow (fC (.int 10)) (fC (.int 16)))) faNil))) (fBin fMul (fBin fPow (fC (.int 10)) (fC (.int 56))) (fBin fPow (fC (.int 10)) (fC (.int 60))))))
  (sRetO (fLst (faCons (fVar 3) (faCons (fBin fAdd (fBin fAdd (fBin fAdd (fBin fMul (fBin fMod (fCall fAbs (faCons (fVar 2) faNil)) (fC (.int 1152921504606846869))) (fC (.int 61))) (fBin fMul (fC (.int 1009)) (fVar 1))) (fBin fMul (fC (.int 43)) (fCall fInt (faCons (fBin fLt (fVar 2) (fC (.int 0))) faNil)))) (fC (.int 17))) (faCons (fC (.int 0)) faNil)))))))
def m__law_dice : Fn := fnN 4 F__law_dice
/-! check_within -/
def F_check_within : FS := (sIf (fNotT (fTest (fCallN 3 m_is_within (faCons (fVar 0) (faCons (fVar 1) (faCons (fVar 2) faNil)))))) (sRaise (fMk "InvalidNumber" "given" (faCons (fVar 0) faNil))) sNil)
def m_check_within : Fn := fnOf 3 F_check_within
theorem S_check_within : Lf (fnOf 3 F_check_within) m_check_within := .refl _
/-! Lots.all_of -/
def F_Lots_all_of : FS := (sSeq (sDrop (fCallN 3 m_check_within (faCons (fVar 1) (faCons (fC (.int 1)) (faCons (fBin fAdd (fC (.int 7)) (fC (.int 1))) faNil)))))
  (sSeq (sDrop (fCallN 3 m_check_within (faCons (fVar 2) (faCons (fC (.int 1)) (faCons (fC (.int 5)) faNil)))))
  (sSeq (sIf (fTestB (fBin fLt (fVar 1) (fVar 2))) (sRaise (fMk0 "InvalidOperation")) sNil)
  (sSeq (sIf (fTestB (fBin fGt (fCall fComb (faCons (fVar 1) (faCons (fVar 2) faNil))) (fC (.int 40)))) (sRaise (fMk "TooMany" "limit" (faCons (fC (.int 40)) faNil))) sNil)
  (sRet (fMakeV 1 "Lots" 0 m_Lots___init__ (faCons (fCompD (fSeq (fCallN 1 m_parts_of (faCons (fCall fTuple3 (faCons (fCall fRgV (faCons (fVar 1) faNil)) faNil)) faNil))) [3] (gN 3) (fTestB (fBin fEq (fCall fLen (faCons (fVar 3) faNil)) (fVar 2))) (fVar 3) (fC (.int 1))) faNil)))))))
def m_Lots_all_of : Fn := fnOf 4 F_Lots_all_of
/-! law -/
def Qlaw_1 : FS := (sFor (fIt rng1W (faCons (fCall fMaxA (faCons (fC (.int 1)) (faCons (fCall fMinA (faCons (fC (.int 4)) (faCons (fCall fLen (faCons (fVar 0) faNil)) faNil))) faNil))) faNil)) (gN 1) (sIf (fNotT (fTest (fCallBF 0 m__law_right (fCallN 2 m__law_dice (faCons (fVar 0) (faCons (fVar 1) faNil))) faNil))) (sRet (fC (.bl false))) sNil))
def Qlaw_2 : FS := (sSet (gT [2, 3]) (fTup (faCons (fCMet "Lots" 2 m_Lots_all_of (faCons (fC (.int 5)) (faCons (fC (.int 1)) faNil))) (faCons (fCMet "Lots" 2 m_Lots_all_of (faCons (fC (.int 3)) (faCons (fC (.int 2)) faNil))) faNil))))
def Qlaw_3 : FS := (sOwn 4 (fLst (faCons (fHear SUB ks__law_met c__law_met (fCallN 2 m_pieces (faCons (fVar 2) (faCons (fTup faNil) faNil)))) faNil)))
def Qlaw_4 : FS := (sDrop (fMet 4 hApp (fHear SUB ks__law_met c__law_met (fCallN 2 m_pieces (faCons (fVar 3) (faCons (fTup (faCons (fC (.int 2)) faNil)) faNil))))))
def Qlaw_5 : FS := (sDrop (fMet 4 hApp (fHear SUB ks__law_met c__law_met (fCallN 2 m_pieces (faCons (fVar 3) (faCons (fTup faNil) faNil))))))
def Qlaw_6 : FS := (sDrop (fMet 4 hApp (fHear SUB ks__law_met c__law_met (fCallN 2 m_masses (faCons (fVar 2) (faCons (fTup (faCons (fC (.int 4)) faNil)) faNil))))))
def Qlaw_7 : FS := (sRet (fBin fEq (fVar 4) (fLst (faCons (fTup (faCons (fC (.str "refused")) (faCons (fC (.str "operation")) faNil))) (faCons (fTup (faCons (fC (.str "refused")) (faCons (fC (.str "operation")) faNil))) (faCons (fTup (faCons (fC (.str "fine")) faNil)) (faCons (fTup (faCons (fC (.str "refused")) (faCons (fC (.str "operation")) faNil))) faNil)))))))
def Ulaw_7 : FS := Qlaw_7
def Ulaw_6 : FS := sSeq Qlaw_6 Ulaw_7
def Ulaw_5 : FS := sSeq Qlaw_5 Ulaw_6
def Ulaw_4 : FS := sSeq Qlaw_4 Ulaw_5
def Ulaw_3 : FS := sSeq Qlaw_3 Ulaw_4
def Ulaw_2 : FS := sSeq Qlaw_2 Ulaw_3
def Ulaw_1 : FS := sSeq Qlaw_1 Ulaw_2
def F_law : FS := (sSeq (sFor (fIt rng1W (faCons (fCall fMaxA (faCons (fC (.int 1)) (faCons (fCall fMinA (faCons (fC (.int 4)) (faCons (fCall fLen (faCons (fVar 0) faNil)) faNil))) faNil))) faNil)) (gN 1) (sIf (fNotT (fTest (fCallBF 0 m__law_right (fCallN 2 m__law_dice (faCons (fVar 0) (faCons (fVar 1) faNil))) faNil))) (sRet (fC (.bl false))) sNil))
  (sSeq (sSet (gT [2, 3]) (fTup (faCons (fCMet "Lots" 2 m_Lots_all_of (faCons (fC (.int 5)) (faCons (fC (.int 1)) faNil))) (faCons (fCMet "Lots" 2 m_Lots_all_of (faCons (fC (.int 3)) (faCons (fC (.int 2)) faNil))) faNil))))
  (sSeq (sOwn 4 (fLst (faCons (fHear SUB ks__law_met c__law_met (fCallN 2 m_pieces (faCons (fVar 2) (faCons (fTup faNil) faNil)))) faNil)))
  (sSeq (sDrop (fMet 4 hApp (fHear SUB ks__law_met c__law_met (fCallN 2 m_pieces (faCons (fVar 3) (faCons (fTup (faCons (fC (.int 2)) faNil)) faNil))))))
  (sSeq (sDrop (fMet 4 hApp (fHear SUB ks__law_met c__law_met (fCallN 2 m_pieces (faCons (fVar 3) (faCons (fTup faNil) faNil))))))
  (sSeq (sDrop (fMet 4 hApp (fHear SUB ks__law_met c__law_met (fCallN 2 m_masses (faCons (fVar 2) (faCons (fTup (faCons (fC (.int 4)) faNil)) faNil))))))
  (sRet (fBin fEq (fVar 4) (fLst (faCons (fTup (faCons (fC (.str "refused")) (faCons (fC (.str "operation")) faNil))) (faCons (fTup (faCons (fC (.str "refused")) (faCons (fC (.str "operation")) faNil))) (faCons (fTup (faCons (fC (.str "fine")) faNil)) (faCons (fTup (faCons (fC (.str "refused")) (faCons (fC (.str "operation")) faNil))) faNil)))))))))))))
theorem FU_law : F_law = Ulaw_1 := rfl
def m_law : Fn := fnOf 5 F_law
theorem S_law : Lf (fnOf 5 F_law) m_law := .refl _
end Pv.K18
namespace Pv.K18
open PySem L2 Pv
theorem sm_small {i : Int} (h : i.natAbs ≤ 1208925819614629174706176) : Sm i := Nat.lt_of_le_of_lt h (by show _ < lim; decide +kernel)
theorem at3_0 {α : Type} {x y z : α} : atI [x, y, z] 0 = some x := rfl
theorem at3_1 {α : Type} {x y z : α} : atI [x, y, z] 1 = some y := rfl
theorem at3_2 {α : Type} {x y z : α} : atI [x, y, z] 2 = some z := rfl
theorem ix3_0 : ixN (0 + 1 + 1 + 1) 0 = some 0 := rfl
theorem ix3_2 : ixN (0 + 1 + 1 + 1) 2 = some 2 := rfl
theorem ix3_0' : ixN 3 0 = some 0 := rfl
theorem ix3_2' : ixN 3 2 = some 2 := rfl
def rollV (b j : Int) : Int := (((b + 99990067 * j) % 2305843009213693381 * ((b + 99990067 * j) % 2305843009213693381) + 89 * j) % 2305843009213693343 * 8675309 + (b + 99990067 * j) % 2305843009213693381) / 65551
/-- dice, rolled at most k times -/
def Dice (k : Nat) (c : W) : Prop := ∃ a b j : Int, c = .lst [.int a, .int b, .int j] ∧ 0 ≤ a ∧ 0 ≤ b ∧ b.natAbs < 1208925819614629174706176 ∧ 0 ≤ j ∧ j ≤ k
theorem roll_ok {k : Nat} {c : W} {most : Int} (d : Dice k c) (hk : k < 1000000) (h0 : 0 < most) (h1 : Sm most) : ∃ (r : Int) (c' : W), m__law_roll c [.int most] = .ok (.int r) c' ∧ 0 ≤ r ∧ r < most ∧ Dice (k + 1) c' := by
  obtain ⟨a, b, c, rfl, a0, b0, b1, c0, c1⟩ := d
  by_cases ha : 0 < a
  · refine ⟨a % most, .lst [.int (a / most), .int b, .int c], ?_, Int.emod_nonneg _ (by omega), Int.emod_lt_of_pos _ h0, ⟨_, b, c, rfl, Int.ediv_nonneg a0 (by omega), b0, b1, c0, by omega⟩⟩
    simp only [m__law_roll, F__law_roll, fnB, startB, endB, lentOf, sSeq, sSet, sOwn, sRet, sRetO, sRetN, sIf, sNil, sDrop, sSetI, Rs.bind, Rs.thn, ofO, ofG, alW, putW, Ev.alone, Ev.put, fVar, fC, fBin, fIxN, ixW, fTest, fTestB, blW, fNotT, fAndT, fOrT, fNotV, fAndV, fOrV, fIf, faNil, faCons, fTup, fLst, szO, fNeg, negW, fChain, fCall, fCallN, fCallB, gN, gT, gNs, decide_true, decide_false, fLt, fLe, fGt, fGe, fSub, truth, List.length_cons, List.length_nil, List.map_cons, List.map_nil, List.replicate, List.cons_append, List.nil_append, List.getElem?_cons_zero, List.getElem?_cons_succ, List.set_cons_zero, List.set_cons_succ, decide_eq_true_eq, true_and, and_true, false_and, and_false, if_true, if_false, and_self, Nat.zero_add, Nat.reduceAdd, Nat.reduceSub, Bool.false_eq_true, Bool.not_true, Bool.not_false, Nat.reduceEqDiff, fInt, fMod, fDiv, h0, h1, at3_0, ix3_0, ix3_0', ha]
  · have k1 : Sm 99990067 := sm_small (by decide)
    have k2 : Sm (c + 1) := sm_small (by omega)
    have k3 : Sm 89 := sm_small (by decide)
    have k4 : Sm ((b + 99990067 * (c + 1)) % 2305843009213693381) := sm_small (by
      have := Int.emod_nonneg (b + 99990067 * (c + 1)) (show (2305843009213693381 : Int) ≠ 0 by decide)
      have := Int.emod_lt_of_pos (b + 99990067 * (c + 1)) (show (0 : Int) < 2305843009213693381 by decide)
      omega)
    have k5 : Sm (((b + 99990067 * (c + 1)) % 2305843009213693381 * ((b + 99990067 * (c + 1)) % 2305843009213693381) + 89 * (c + 1)) % 2305843009213693343) := sm_small (by
      generalize ((b + 99990067 * (c + 1)) % 2305843009213693381 * ((b + 99990067 * (c + 1)) % 2305843009213693381) + 89 * (c + 1)) = z
      omega)
    have k6 : Sm 8675309 := sm_small (by decide)
    have k7 : Sm 65551 := sm_small (by decide)
    refine ⟨rollV b (c + 1) % most, .lst [.int a, .int b, .int (c + 1)], ?_, Int.emod_nonneg _ (by omega), Int.emod_lt_of_pos _ h0, ⟨a, b, c + 1, rfl, a0, b0, b1, by omega, by omega⟩⟩
    simp only [m__law_roll, F__law_roll, rollV, fnB, startB, endB, lentOf, sSeq, sSet, sOwn, sRet, sRetO, sRetN, sIf, sNil, sDrop, sSetI, Rs.bind, Rs.thn, ofO, ofG, alW, putW, Ev.alone, Ev.put, fVar, fC, fBin, fIxN, ixW, fTest, fTestB, blW, fNotT, fAndT, fOrT, fNotV, fAndV, fOrV, fIf, faNil, faCons, fTup, fLst, szO, fNeg, negW, fChain, fCall, fCallN, fCallB, gN, gT, gNs, decide_true, decide_false, fLt, fLe, fGt, fGe, fSub, truth, List.length_cons, List.length_nil, List.map_cons, List.map_nil, List.replicate, List.cons_append, List.nil_append, List.getElem?_cons_zero, List.getElem?_cons_succ, List.set_cons_zero, List.set_cons_succ, decide_eq_true_eq, true_and, and_true, false_and, and_false, if_true, if_false, and_self, Nat.zero_add, Nat.reduceAdd, Nat.reduceSub, Bool.false_eq_true, Bool.not_true, Bool.not_false, Nat.reduceEqDiff, fInt, fMod, fDiv, fAdd, fMul, h0, h1, at3_0, at3_1, at3_2, ix3_0, ix3_0', ix3_2, ix3_2', ha, k1, k2, k3, k4, k5, k6, k7, show (0 : Int) < 2305843009213693381 by decide, show (0 : Int) < 2305843009213693343 by decide, show (0 : Int) < 65551 by decide]
theorem pick_ok {k : Nat} {c : W} {xs : List W} (d : Dice k c) (hk : k < 1000000) (h0 : 0 < xs.length) (h1 : xs.length ≤ 1000) : ∃ (w : W) (c' : W), m__law_pick c [.lst xs] = .ok w c' ∧ w ∈ xs ∧ Dice (k + 1) c' := by
  obtain ⟨r, c', e, r0, r1, d'⟩ := roll_ok (most := xs.length) d hk (by omega) (sm_small (by omega))
  have hr : r.toNat < xs.length := by omega
  refine ⟨xs[r.toNat], c', ?_, List.getElem_mem _, d'⟩
  have : atI xs r = some xs[r.toNat] := by
    unfold atI ixN
    rw [if_pos r0, if_pos r1]
    simp [hr]
  simp only [m__law_pick, F__law_pick, fnB, startB, endB, lentOf, sSeq, sSet, sOwn, sRet, sRetO, sRetN, sIf, sNil, sDrop, sSetI, Rs.bind, Rs.thn, ofO, ofG, alW, putW, Ev.alone, Ev.put, fVar, fC, fBin, fIxN, ixW, fTest, fTestB, blW, fNotT, fAndT, fOrT, fNotV, fAndV, fOrV, fIf, faNil, faCons, fTup, fLst, szO, fNeg, negW, fChain, fCall, fCallN, fCallB, gN, gT, gNs, decide_true, decide_false, fLt, fLe, fGt, fGe, fSub, truth, List.length_cons, List.length_nil, List.map_cons, List.map_nil, List.replicate, List.cons_append, List.nil_append, List.getElem?_cons_zero, List.getElem?_cons_succ, List.set_cons_zero, List.set_cons_succ, decide_eq_true_eq, true_and, and_true, false_and, and_false, if_true, if_false, and_self, Nat.zero_add, Nat.reduceAdd, Nat.reduceSub, Bool.false_eq_true, Bool.not_true, Bool.not_false, Nat.reduceEqDiff, fLen, e, Rb.rs, subW, this]
theorem dice_ok (ns : List Int) (i : Nat) (hi : i ≤ 100) : ∃ c : W, m__law_dice [.rol (ns.map .int), .int (i : Int)] = .ok c ∧ Dice 0 c := by
  have k1 : (0 : Int) < 10 ^ Int.toNat 56 * 10 ^ Int.toNat 60 := by decide +kernel
  have k2 : Sm ((10 : Int) ^ Int.toNat 56) := by show _ < lim; decide +kernel
  have k3 : Sm ((10 : Int) ^ Int.toNat 60) := by show _ < lim; decide +kernel
  have s61 : Sm 61 := sm_small (by decide)
  have s1009 : Sm 1009 := sm_small (by decide)
  have s43 : Sm 43 := sm_small (by decide)
  have s89 : Sm 89 := sm_small (by decide)
  have si : Sm (i : Int) := sm_small (by omega)
  have s0 : Sm 0 := sm_small (by decide)
  have s1 : Sm 1 := sm_small (by decide)
  have p56 : ((0 : Int) ≤ 56 ∧ (56 : Int) ≤ 1000000 ∧ (10 : Int).natAbs < 2 ^ 64) := by decide
  have p60 : ((0 : Int) ≤ 60 ∧ (60 : Int) ≤ 1000000 ∧ (10 : Int).natAbs < 2 ^ 64) := by decide
  have p16 : ((0 : Int) ≤ 16 ∧ (16 : Int) ≤ 1000000 ∧ (10 : Int).natAbs < 2 ^ 64) := by decide
  have h3 : 3 ≤ sizeLine := by decide
  have fin : ∀ (x y : Int), Dice 0 (.lst [.int x, .int y, .int 0]) ∨ ¬ (0 ≤ x ∧ 0 ≤ y ∧ y.natAbs < 1208925819614629174706176) := fun x y => by
    by_cases h : 0 ≤ x ∧ 0 ≤ y ∧ y.natAbs < 1208925819614629174706176
    · exact .inl ⟨x, y, 0, rfl, h.1, h.2.1, h.2.2, by omega, by omega⟩
    · exact .inr h
  have main : ∀ c : Int, ∀ sg : Int, (0 ≤ sg ∧ sg ≤ 1) → Dice 0 (.lst [.int ((if (if c < 0 then -c else c) - 10 ^ Int.toNat 16 > 0 then (if c < 0 then -c else c) - 10 ^ Int.toNat 16 else 0) % (10 ^ Int.toNat 56 * 10 ^ Int.toNat 60)), .int ((if c < 0 then -c else c) % 1152921504606846869 * 61 + 1009 * (i : Int) + 43 * sg + 17), .int 0]) := fun c sg hs => by
    refine (fin _ _).resolve_right fun h => h ⟨Int.emod_nonneg _ (by omega), ?_, ?_⟩
    · have := Int.emod_nonneg (if c < 0 then -c else c) (show (1152921504606846869 : Int) ≠ 0 by decide)
      generalize (if c < 0 then -c else c) % 1152921504606846869 = z at *
      omega
    · have h1 := Int.emod_nonneg (if c < 0 then -c else c) (show (1152921504606846869 : Int) ≠ 0 by decide)
      have h2 := Int.emod_lt_of_pos (if c < 0 then -c else c) (show (0 : Int) < 1152921504606846869 by decide)
      generalize (if c < 0 then -c else c) % 1152921504606846869 = z at *
      omega
  have sm61 : ∀ c : Int, Sm (c % 1152921504606846869) := fun c => sm_small (by omega)
  by_cases h : i < ns.length
  · have ix : atI (ns.map W.int) (i : Int) = some (.int ns[i]) := by
      unfold atI ixN
      rw [if_pos (by omega), if_pos (by simpa using h)]
      simp [h]
    have hlt : ((i : Int) < ((ns.map W.int).length : Int)) := by simpa using h
    by_cases hc : ns[i] < 0
    · refine ⟨_, ?_, main ns[i] 1 (by decide)⟩
      simp only [m__law_dice, F__law_dice, fnN, endN, startE, sSeq, sSet, sOwn, sRet, sRetO, sRetN, sIf, sNil, sDrop, sSetI, Rs.bind, Rs.thn, ofO, ofG, alW, putW, Ev.alone, Ev.put, fVar, fC, fBin, fIxN, ixW, fTest, fTestB, blW, fNotT, fAndT, fOrT, fNotV, fAndV, fOrV, fIf, faNil, faCons, fTup, fLst, szO, fNeg, negW, fChain, fCall, fCallN, fCallB, gN, gT, gNs, decide_true, decide_false, fLt, fLe, fGt, fGe, fSub, truth, List.length_cons, List.length_nil, List.map_cons, List.map_nil, List.replicate, List.cons_append, List.nil_append, List.getElem?_cons_zero, List.getElem?_cons_succ, List.set_cons_zero, List.set_cons_succ, decide_eq_true_eq, true_and, and_true, false_and, and_false, if_true, if_false, and_self, Nat.zero_add, Nat.reduceAdd, Nat.reduceSub, Bool.false_eq_true, Bool.not_true, Bool.not_false, Nat.reduceEqDiff, h3, fLen, hlt, fInt, subW, ix, fAbs, fPow, p56, p60, p16, fMaxA, fMul, k2, k3, fMod, k1, s61, s1009, s43, si, s1, hc, sm61, fAdd, show (0 : Int) < 1152921504606846869 by decide]
    · refine ⟨_, ?_, main ns[i] 0 (by decide)⟩
      simp only [m__law_dice, F__law_dice, fnN, endN, startE, sSeq, sSet, sOwn, sRet, sRetO, sRetN, sIf, sNil, sDrop, sSetI, Rs.bind, Rs.thn, ofO, ofG, alW, putW, Ev.alone, Ev.put, fVar, fC, fBin, fIxN, ixW, fTest, fTestB, blW, fNotT, fAndT, fOrT, fNotV, fAndV, fOrV, fIf, faNil, faCons, fTup, fLst, szO, fNeg, negW, fChain, fCall, fCallN, fCallB, gN, gT, gNs, decide_true, decide_false, fLt, fLe, fGt, fGe, fSub, truth, List.length_cons, List.length_nil, List.map_cons, List.map_nil, List.replicate, List.cons_append, List.nil_append, List.getElem?_cons_zero, List.getElem?_cons_succ, List.set_cons_zero, List.set_cons_succ, decide_eq_true_eq, true_and, and_true, false_and, and_false, if_true, if_false, and_self, Nat.zero_add, Nat.reduceAdd, Nat.reduceSub, Bool.false_eq_true, Bool.not_true, Bool.not_false, Nat.reduceEqDiff, h3, fLen, hlt, fInt, subW, ix, fAbs, fPow, p56, p60, p16, fMaxA, fMul, k2, k3, fMod, k1, s61, s1009, s43, si, s0, hc, sm61, fAdd, show (0 : Int) < 1152921504606846869 by decide]
  · have hlt : ¬ ((i : Int) < ((ns.map W.int).length : Int)) := by simpa using h
    have hc : ¬ (89 * (i : Int) + 53 < 0) := by omega
    refine ⟨_, ?_, main (89 * (i : Int) + 53) 0 (by decide)⟩
    simp only [m__law_dice, F__law_dice, fnN, endN, startE, sSeq, sSet, sOwn, sRet, sRetO, sRetN, sIf, sNil, sDrop, sSetI, Rs.bind, Rs.thn, ofO, ofG, alW, putW, Ev.alone, Ev.put, fVar, fC, fBin, fIxN, ixW, fTest, fTestB, blW, fNotT, fAndT, fOrT, fNotV, fAndV, fOrV, fIf, faNil, faCons, fTup, fLst, szO, fNeg, negW, fChain, fCall, fCallN, fCallB, gN, gT, gNs, decide_true, decide_false, fLt, fLe, fGt, fGe, fSub, truth, List.length_cons, List.length_nil, List.map_cons, List.map_nil, List.replicate, List.cons_append, List.nil_append, List.getElem?_cons_zero, List.getElem?_cons_succ, List.set_cons_zero, List.set_cons_succ, decide_eq_true_eq, true_and, and_true, false_and, and_false, if_true, if_false, and_self, Nat.zero_add, Nat.reduceAdd, Nat.reduceSub, Bool.false_eq_true, Bool.not_true, Bool.not_false, Nat.reduceEqDiff, h3, fLen, hlt, fInt, fAbs, fPow, p56, p60, p16, fMaxA, fMul, k2, k3, fMod, k1, s61, s1009, s43, s89, si, s0, hc, sm61, fAdd, show (0 : Int) < 1152921504606846869 by decide]
end Pv.K18
namespace Pv.K18
open PySem L2 Pv
theorem Dice.mono {a b : Nat} {c : W} (d : Dice a c) (h : a ≤ b) : Dice b c := by
  obtain ⟨x, y, j, e, h1, h2, h3, h4, h5⟩ := d
  exact ⟨x, y, j, e, h1, h2, h3, h4, by omega⟩
theorem pick_step {c c' w : W} {xs : List W} {i : Nat} {L : FE} {e r : En} (eL : L (some (.b c) :: e) = .ok (.lst xs) (some (.b c) :: r)) (h : m__law_pick c [.lst xs] = .ok w c') : sSet (gN i) (fCallB 1 0 m__law_pick (faCons L faNil)) (some (.b c) :: e) = .nx ((some (.b c') :: r).set i (some (.v w))) := callB_step eL h
def R_law_rightP0 : List W := [.non, .int 0, .dic [], .dic [(.tup [.int 0, .int 1], .int 1)], .str "lots", .lst [], .tup []]
theorem R_law_rightK0_t (c : W) : Q_law_right_1_L [some (.b c), none, none, none, none, none, none] = .ok (.lst R_law_rightP0) [some (.b c), none, none, none, none, none, none] := by kernel_rfl
def R_law_rightP1 : List W := [.non, .int 0, .str "0", .lst [.int 0], .tup [.int 4], .tup [.int 1, .int 0], .tup [.int 0, .int 0], .tup [.bl true], .tup [.str "0"], .tup [.int (-1)], .tup [.int 0, .int 1, .int 2, .int 3], .dic [], .tup [.tup [.int 0]], .tup [.non], .tup [.int 1, .int 4]]
theorem R_law_rightK1_t (c : W) (w1 : W) : Q_law_right_2_L [some (.b c), some (.v w1), none, none, none, none, none] = .ok (.lst R_law_rightP1) [some (.b c), some (.v w1), none, none, none, none, none] := by kernel_rfl
def R_law_rightP2 : List W := [.tup [.int 0, .int 1], .tup [.int 2, .int 3], .tup [.int 0, .int 1, .int 2], .tup [.int 0, .int 2, .int 3], .tup [.int 1, .int 2]]
theorem R_law_rightK2_t (c : W) (w1 : W) (w2 : W) : Q_law_right_3_L [some (.b c), some (.v w1), some (.v w2), none, none, none, none] = .ok (.lst R_law_rightP2) [some (.b c), some (.v w1), some (.v w2), none, none, none, none] := by kernel_rfl
def za0 : Option Ev := some (.v (.ins "Lots" [("_weights", .dic [(.tup [.int 0, .int 1, .int 2], .tup [.int 1, .int 1]), (.tup [.int 0, .int 1, .int 3], .tup [.int 2, .int 1]), (.tup [.int 0, .int 2, .int 3], .tup [.int 1, .int 2])]), ("_size", .int 3), ("_unit", .tup [.int 1, .int 2]), ("_multiples", .lst [.dic [(.tup [], .int 7)], .dic [(.tup [.int 0], .int 7), (.tup [.int 1], .int 6), (.tup [.int 2], .int 3), (.tup [.int 3], .int 5)], .dic [(.tup [.int 0, .int 1], .int 6), (.tup [.int 0, .int 2], .int 3), (.tup [.int 0, .int 3], .int 5), (.tup [.int 1, .int 2], .int 2), (.tup [.int 1, .int 3], .int 4), (.tup [.int 2, .int 3], .int 1)], .dic [(.tup [.int 0, .int 1, .int 2], .int 2), (.tup [.int 0, .int 1, .int 3], .int 4), (.tup [.int 0, .int 2, .int 3], .int 1)]])]))
theorem R_law_rightK3_t (c : W) (w1 : W) (w2 : W) (w3 : W) : Q_law_right_4 [some (.b c), some (.v w1), some (.v w2), some (.v w3), none, none, none] = .nx [some (.b c), some (.v w1), some (.v w2), some (.v w3), za0, none, none] := by kernel_rfl
theorem R_law_rightK4_t (c : W) (w1 : W) (w2 : W) (w3 : W) : Q_law_right_5 [some (.b c), some (.v w1), some (.v w2), some (.v w3), za0, none, none] = .nx [some (.b c), some (.v w1), some (.v w2), some (.v w3), za0, some (.o (.lst [])), none] := by kernel_rfl
theorem R_law_rightK5_t (c : W) (w1 : W) (w2 : W) (w3 : W) : Q_law_right_6_I [some (.b c), some (.v w1), some (.v w2), some (.v w3), za0, some (.o (.lst [])), none] = .ok (Q_law_right_6_w.drop 0) [some (.b c), some (.v w1), some (.v w2), some (.v w3), za0, some (.o (.lst [])), none] := by kernel_rfl
theorem R_law_rightK6_w : Q_law_right_6_w.drop 0 = (.gl "link_things") :: Q_law_right_6_w.drop 1 := by kernel_rfl
theorem R_law_rightK6_g (c : W) (w1 : W) (w2 : W) (w3 : W) : (gN 6) (.gl "link_things") [some (.b c), some (.v w1), some (.v w2), some (.v w3), za0, some (.o (.lst [])), none] = some [some (.b c), some (.v w1), some (.v w2), some (.v w3), za0, some (.o (.lst [])), some (.v (.gl "link_things"))] := by kernel_rfl
theorem R_law_rightK7_t (c : W) (w3 : W) : (R_law_rightP0.map fun w1 => (R_law_rightP1.map fun w2 => Q_law_right_6b_1 [some (.b c), some (.v w1), some (.v w2), some (.v w3), za0, some (.o (.lst [])), some (.v (.gl "link_things"))])) = (R_law_rightP0.map fun w1 => (R_law_rightP1.map fun w2 => .nx [some (.b c), some (.v w1), some (.v w2), some (.v w3), za0, some (.o (.lst [.tup [.str "refused", .str "lots"]])), some (.v (.gl "link_things"))])) := by kernel_rfl
def za1 : Option Ev := some (.o (.lst [.tup [.str "refused", .str "lots"], .tup [.str "refused", .str "pin"]]))
theorem R_law_rightK8_t (c : W) (w1 : W) (w3 : W) : (R_law_rightP1.map fun w2 => Q_law_right_6b_2 [some (.b c), some (.v w1), some (.v w2), some (.v w3), za0, some (.o (.lst [.tup [.str "refused", .str "lots"]])), some (.v (.gl "link_things"))]) = (R_law_rightP1.map fun w2 => .nx [some (.b c), some (.v w1), some (.v w2), some (.v w3), za0, za1, some (.v (.gl "link_things"))]) := by kernel_rfl
def za2 : Option Ev := some (.o (.lst [.tup [.str "refused", .str "lots"], .tup [.str "refused", .str "pin"], .tup [.str "refused", .str "operation"]]))
theorem R_law_rightK9_t (c : W) (w1 : W) (w2 : W) : (R_law_rightP2.map fun w3 => Q_law_right_6b_3 [some (.b c), some (.v w1), some (.v w2), some (.v w3), za0, za1, some (.v (.gl "link_things"))]) = (R_law_rightP2.map fun w3 => .nx [some (.b c), some (.v w1), some (.v w2), some (.v w3), za0, za2, some (.v (.gl "link_things"))]) := by kernel_rfl
def za3 : Option Ev := some (.o (.lst [.tup [.str "refused", .str "lots"], .tup [.str "refused", .str "pin"], .tup [.str "refused", .str "operation"], .tup [.str "fine"]]))
theorem R_law_rightK10_t (c : W) (w1 : W) (w2 : W) (w3 : W) : Q_law_right_6b_4 [some (.b c), some (.v w1), some (.v w2), some (.v w3), za0, za2, some (.v (.gl "link_things"))] = .nx [some (.b c), some (.v w1), some (.v w2), some (.v w3), za0, za3, some (.v (.gl "link_things"))] := by kernel_rfl
theorem R_law_rightK11_w : Q_law_right_6_w.drop 1 = (.gl "pair_weights") :: Q_law_right_6_w.drop 2 := by kernel_rfl
theorem R_law_rightK11_g (c : W) (w1 : W) (w2 : W) (w3 : W) : (gN 6) (.gl "pair_weights") [some (.b c), some (.v w1), some (.v w2), some (.v w3), za0, za3, some (.v (.gl "link_things"))] = some [some (.b c), some (.v w1), some (.v w2), some (.v w3), za0, za3, some (.v (.gl "pair_weights"))] := by kernel_rfl
def za4 : Option Ev := some (.o (.lst [.tup [.str "refused", .str "lots"], .tup [.str "refused", .str "pin"], .tup [.str "refused", .str "operation"], .tup [.str "fine"], .tup [.str "refused", .str "lots"]]))
theorem R_law_rightK12_t (c : W) (w3 : W) : (R_law_rightP0.map fun w1 => (R_law_rightP1.map fun w2 => Q_law_right_6b_1 [some (.b c), some (.v w1), some (.v w2), some (.v w3), za0, za3, some (.v (.gl "pair_weights"))])) = (R_law_rightP0.map fun w1 => (R_law_rightP1.map fun w2 => .nx [some (.b c), some (.v w1), some (.v w2), some (.v w3), za0, za4, some (.v (.gl "pair_weights"))])) := by kernel_rfl
def za5 : Option Ev := some (.o (.lst [.tup [.str "refused", .str "lots"], .tup [.str "refused", .str "pin"], .tup [.str "refused", .str "operation"], .tup [.str "fine"], .tup [.str "refused", .str "lots"], .tup [.str "refused", .str "pin"]]))
theorem R_law_rightK13_t (c : W) (w1 : W) (w3 : W) : (R_law_rightP1.map fun w2 => Q_law_right_6b_2 [some (.b c), some (.v w1), some (.v w2), some (.v w3), za0, za4, some (.v (.gl "pair_weights"))]) = (R_law_rightP1.map fun w2 => .nx [some (.b c), some (.v w1), some (.v w2), some (.v w3), za0, za5, some (.v (.gl "pair_weights"))]) := by kernel_rfl
def za6 : Option Ev := some (.o (.lst [.tup [.str "refused", .str "lots"], .tup [.str "refused", .str "pin"], .tup [.str "refused", .str "operation"], .tup [.str "fine"], .tup [.str "refused", .str "lots"], .tup [.str "refused", .str "pin"], .tup [.str "refused", .str "operation"]]))
theorem R_law_rightK14_t (c : W) (w1 : W) (w2 : W) : (R_law_rightP2.map fun w3 => Q_law_right_6b_3 [some (.b c), some (.v w1), some (.v w2), some (.v w3), za0, za5, some (.v (.gl "pair_weights"))]) = (R_law_rightP2.map fun w3 => .nx [some (.b c), some (.v w1), some (.v w2), some (.v w3), za0, za6, some (.v (.gl "pair_weights"))]) := by kernel_rfl
def za7 : Option Ev := some (.o (.lst [.tup [.str "refused", .str "lots"], .tup [.str "refused", .str "pin"], .tup [.str "refused", .str "operation"], .tup [.str "fine"], .tup [.str "refused", .str "lots"], .tup [.str "refused", .str "pin"], .tup [.str "refused", .str "operation"], .tup [.str "fine"]]))
theorem R_law_rightK15_t (c : W) (w1 : W) (w2 : W) (w3 : W) : Q_law_right_6b_4 [some (.b c), some (.v w1), some (.v w2), some (.v w3), za0, za6, some (.v (.gl "pair_weights"))] = .nx [some (.b c), some (.v w1), some (.v w2), some (.v w3), za0, za7, some (.v (.gl "pair_weights"))] := by kernel_rfl
theorem R_law_rightK16_w : Q_law_right_6_w.drop 2 = (.gl "masses") :: Q_law_right_6_w.drop 3 := by kernel_rfl
theorem R_law_rightK16_g (c : W) (w1 : W) (w2 : W) (w3 : W) : (gN 6) (.gl "masses") [some (.b c), some (.v w1), some (.v w2), some (.v w3), za0, za7, some (.v (.gl "pair_weights"))] = some [some (.b c), some (.v w1), some (.v w2), some (.v w3), za0, za7, some (.v (.gl "masses"))] := by kernel_rfl
def za8 : Option Ev := some (.o (.lst [.tup [.str "refused", .str "lots"], .tup [.str "refused", .str "pin"], .tup [.str "refused", .str "operation"], .tup [.str "fine"], .tup [.str "refused", .str "lots"], .tup [.str "refused", .str "pin"], .tup [.str "refused", .str "operation"], .tup [.str "fine"], .tup [.str "refused", .str "lots"]]))
theorem R_law_rightK17_t (c : W) (w3 : W) : (R_law_rightP0.map fun w1 => (R_law_rightP1.map fun w2 => Q_law_right_6b_1 [some (.b c), some (.v w1), some (.v w2), some (.v w3), za0, za7, some (.v (.gl "masses"))])) = (R_law_rightP0.map fun w1 => (R_law_rightP1.map fun w2 => .nx [some (.b c), some (.v w1), some (.v w2), some (.v w3), za0, za8, some (.v (.gl "masses"))])) := by kernel_rfl
def za9 : Option Ev := some (.o (.lst [.tup [.str "refused", .str "lots"], .tup [.str "refused", .str "pin"], .tup [.str "refused", .str "operation"], .tup [.str "fine"], .tup [.str "refused", .str "lots"], .tup [.str "refused", .str "pin"], .tup [.str "refused", .str "operation"], .tup [.str "fine"], .tup [.str "refused", .str "lots"], .tup [.str "refused", .str "pin"]]))
theorem R_law_rightK18_t (c : W) (w1 : W) (w3 : W) : (R_law_rightP1.map fun w2 => Q_law_right_6b_2 [some (.b c), some (.v w1), some (.v w2), some (.v w3), za0, za8, some (.v (.gl "masses"))]) = (R_law_rightP1.map fun w2 => .nx [some (.b c), some (.v w1), some (.v w2), some (.v w3), za0, za9, some (.v (.gl "masses"))]) := by kernel_rfl
def za10 : Option Ev := some (.o (.lst [.tup [.str "refused", .str "lots"], .tup [.str "refused", .str "pin"], .tup [.str "refused", .str "operation"], .tup [.str "fine"], .tup [.str "refused", .str "lots"], .tup [.str "refused", .str "pin"], .tup [.str "refused", .str "operation"], .tup [.str "fine"], .tup [.str "refused", .str "lots"], .tup [.str "refused", .str "pin"], .tup [.str "refused", .str "operation"]]))
theorem R_law_rightK19_t (c : W) (w1 : W) (w2 : W) : (R_law_rightP2.map fun w3 => Q_law_right_6b_3 [some (.b c), some (.v w1), some (.v w2), some (.v w3), za0, za9, some (.v (.gl "masses"))]) = (R_law_rightP2.map fun w3 => .nx [some (.b c), some (.v w1), some (.v w2), some (.v w3), za0, za10, some (.v (.gl "masses"))]) := by kernel_rfl
def za11 : Option Ev := some (.o (.lst [.tup [.str "refused", .str "lots"], .tup [.str "refused", .str "pin"], .tup [.str "refused", .str "operation"], .tup [.str "fine"], .tup [.str "refused", .str "lots"], .tup [.str "refused", .str "pin"], .tup [.str "refused", .str "operation"], .tup [.str "fine"], .tup [.str "refused", .str "lots"], .tup [.str "refused", .str "pin"], .tup [.str "refused", .str "operation"], .tup [.str "fine"]]))
theorem R_law_rightK20_t (c : W) (w1 : W) (w2 : W) (w3 : W) : Q_law_right_6b_4 [some (.b c), some (.v w1), some (.v w2), some (.v w3), za0, za10, some (.v (.gl "masses"))] = .nx [some (.b c), some (.v w1), some (.v w2), some (.v w3), za0, za11, some (.v (.gl "masses"))] := by kernel_rfl
theorem R_law_rightK21_w : Q_law_right_6_w.drop 3 = (.gl "local_walk") :: Q_law_right_6_w.drop 4 := by kernel_rfl
theorem R_law_rightK21_g (c : W) (w1 : W) (w2 : W) (w3 : W) : (gN 6) (.gl "local_walk") [some (.b c), some (.v w1), some (.v w2), some (.v w3), za0, za11, some (.v (.gl "masses"))] = some [some (.b c), some (.v w1), some (.v w2), some (.v w3), za0, za11, some (.v (.gl "local_walk"))] := by kernel_rfl
def za12 : Option Ev := some (.o (.lst [.tup [.str "refused", .str "lots"], .tup [.str "refused", .str "pin"], .tup [.str "refused", .str "operation"], .tup [.str "fine"], .tup [.str "refused", .str "lots"], .tup [.str "refused", .str "pin"], .tup [.str "refused", .str "operation"], .tup [.str "fine"], .tup [.str "refused", .str "lots"], .tup [.str "refused", .str "pin"], .tup [.str "refused", .str "operation"], .tup [.str "fine"], .tup [.str "refused", .str "lots"]]))
theorem R_law_rightK22_t (c : W) (w3 : W) : (R_law_rightP0.map fun w1 => (R_law_rightP1.map fun w2 => Q_law_right_6b_1 [some (.b c), some (.v w1), some (.v w2), some (.v w3), za0, za11, some (.v (.gl "local_walk"))])) = (R_law_rightP0.map fun w1 => (R_law_rightP1.map fun w2 => .nx [some (.b c), some (.v w1), some (.v w2), some (.v w3), za0, za12, some (.v (.gl "local_walk"))])) := by kernel_rfl
def za13 : Option Ev := some (.o (.lst [.tup [.str "refused", .str "lots"], .tup [.str "refused", .str "pin"], .tup [.str "refused", .str "operation"], .tup [.str "fine"], .tup [.str "refused", .str "lots"], .tup [.str "refused", .str "pin"], .tup [.str "refused", .str "operation"], .tup [.str "fine"], .tup [.str "refused", .str "lots"], .tup [.str "refused", .str "pin"], .tup [.str "refused", .str "operation"], .tup [.str "fine"], .tup [.str "refused", .str "lots"], .tup [.str "refused", .str "pin"]]))
theorem R_law_rightK23_t (c : W) (w1 : W) (w3 : W) : (R_law_rightP1.map fun w2 => Q_law_right_6b_2 [some (.b c), some (.v w1), some (.v w2), some (.v w3), za0, za12, some (.v (.gl "local_walk"))]) = (R_law_rightP1.map fun w2 => .nx [some (.b c), some (.v w1), some (.v w2), some (.v w3), za0, za13, some (.v (.gl "local_walk"))]) := by kernel_rfl
def za14 : Option Ev := some (.o (.lst [.tup [.str "refused", .str "lots"], .tup [.str "refused", .str "pin"], .tup [.str "refused", .str "operation"], .tup [.str "fine"], .tup [.str "refused", .str "lots"], .tup [.str "refused", .str "pin"], .tup [.str "refused", .str "operation"], .tup [.str "fine"], .tup [.str "refused", .str "lots"], .tup [.str "refused", .str "pin"], .tup [.str "refused", .str "operation"], .tup [.str "fine"], .tup [.str "refused", .str "lots"], .tup [.str "refused", .str "pin"], .tup [.str "refused", .str "operation"]]))
theorem R_law_rightK24_t (c : W) (w1 : W) (w2 : W) : (R_law_rightP2.map fun w3 => Q_law_right_6b_3 [some (.b c), some (.v w1), some (.v w2), some (.v w3), za0, za13, some (.v (.gl "local_walk"))]) = (R_law_rightP2.map fun w3 => .nx [some (.b c), some (.v w1), some (.v w2), some (.v w3), za0, za14, some (.v (.gl "local_walk"))]) := by kernel_rfl
def za15 : Option Ev := some (.o (.lst [.tup [.str "refused", .str "lots"], .tup [.str "refused", .str "pin"], .tup [.str "refused", .str "operation"], .tup [.str "fine"], .tup [.str "refused", .str "lots"], .tup [.str "refused", .str "pin"], .tup [.str "refused", .str "operation"], .tup [.str "fine"], .tup [.str "refused", .str "lots"], .tup [.str "refused", .str "pin"], .tup [.str "refused", .str "operation"], .tup [.str "fine"], .tup [.str "refused", .str "lots"], .tup [.str "refused", .str "pin"], .tup [.str "refused", .str "operation"], .tup [.str "fine"]]))
theorem R_law_rightK25_t (c : W) (w1 : W) (w2 : W) (w3 : W) : Q_law_right_6b_4 [some (.b c), some (.v w1), some (.v w2), some (.v w3), za0, za14, some (.v (.gl "local_walk"))] = .nx [some (.b c), some (.v w1), some (.v w2), some (.v w3), za0, za15, some (.v (.gl "local_walk"))] := by kernel_rfl
theorem R_law_rightK26_w : Q_law_right_6_w.drop 4 = (.gl "walk_shares") :: Q_law_right_6_w.drop 5 := by kernel_rfl
theorem R_law_rightK26_g (c : W) (w1 : W) (w2 : W) (w3 : W) : (gN 6) (.gl "walk_shares") [some (.b c), some (.v w1), some (.v w2), some (.v w3), za0, za15, some (.v (.gl "local_walk"))] = some [some (.b c), some (.v w1), some (.v w2), some (.v w3), za0, za15, some (.v (.gl "walk_shares"))] := by kernel_rfl
def za16 : Option Ev := some (.o (.lst [.tup [.str "refused", .str "lots"], .tup [.str "refused", .str "pin"], .tup [.str "refused", .str "operation"], .tup [.str "fine"], .tup [.str "refused", .str "lots"], .tup [.str "refused", .str "pin"], .tup [.str "refused", .str "operation"], .tup [.str "fine"], .tup [.str "refused", .str "lots"], .tup [.str "refused", .str "pin"], .tup [.str "refused", .str "operation"], .tup [.str "fine"], .tup [.str "refused", .str "lots"], .tup [.str "refused", .str "pin"], .tup [.str "refused", .str "operation"], .tup [.str "fine"], .tup [.str "refused", .str "lots"]]))
theorem R_law_rightK27_t (c : W) (w3 : W) : (R_law_rightP0.map fun w1 => (R_law_rightP1.map fun w2 => Q_law_right_6b_1 [some (.b c), some (.v w1), some (.v w2), some (.v w3), za0, za15, some (.v (.gl "walk_shares"))])) = (R_law_rightP0.map fun w1 => (R_law_rightP1.map fun w2 => .nx [some (.b c), some (.v w1), some (.v w2), some (.v w3), za0, za16, some (.v (.gl "walk_shares"))])) := by kernel_rfl
def za17 : Option Ev := some (.o (.lst [.tup [.str "refused", .str "lots"], .tup [.str "refused", .str "pin"], .tup [.str "refused", .str "operation"], .tup [.str "fine"], .tup [.str "refused", .str "lots"], .tup [.str "refused", .str "pin"], .tup [.str "refused", .str "operation"], .tup [.str "fine"], .tup [.str "refused", .str "lots"], .tup [.str "refused", .str "pin"], .tup [.str "refused", .str "operation"], .tup [.str "fine"], .tup [.str "refused", .str "lots"], .tup [.str "refused", .str "pin"], .tup [.str "refused", .str "operation"], .tup [.str "fine"], .tup [.str "refused", .str "lots"], .tup [.str "refused", .str "pin"]]))
theorem R_law_rightK28_t (c : W) (w1 : W) (w3 : W) : (R_law_rightP1.map fun w2 => Q_law_right_6b_2 [some (.b c), some (.v w1), some (.v w2), some (.v w3), za0, za16, some (.v (.gl "walk_shares"))]) = (R_law_rightP1.map fun w2 => .nx [some (.b c), some (.v w1), some (.v w2), some (.v w3), za0, za17, some (.v (.gl "walk_shares"))]) := by kernel_rfl
def za18 : Option Ev := some (.o (.lst [.tup [.str "refused", .str "lots"], .tup [.str "refused", .str "pin"], .tup [.str "refused", .str "operation"], .tup [.str "fine"], .tup [.str "refused", .str "lots"], .tup [.str "refused", .str "pin"], .tup [.str "refused", .str "operation"], .tup [.str "fine"], .tup [.str "refused", .str "lots"], .tup [.str "refused", .str "pin"], .tup [.str "refused", .str "operation"], .tup [.str "fine"], .tup [.str "refused", .str "lots"], .tup [.str "refused", .str "pin"], .tup [.str "refused", .str "operation"], .tup [.str "fine"], .tup [.str "refused", .str "lots"], .tup [.str "refused", .str "pin"], .tup [.str "refused", .str "operation"]]))
theorem R_law_rightK29_t (c : W) (w1 : W) (w2 : W) : (R_law_rightP2.map fun w3 => Q_law_right_6b_3 [some (.b c), some (.v w1), some (.v w2), some (.v w3), za0, za17, some (.v (.gl "walk_shares"))]) = (R_law_rightP2.map fun w3 => .nx [some (.b c), some (.v w1), some (.v w2), some (.v w3), za0, za18, some (.v (.gl "walk_shares"))]) := by kernel_rfl
def za19 : Option Ev := some (.o (.lst [.tup [.str "refused", .str "lots"], .tup [.str "refused", .str "pin"], .tup [.str "refused", .str "operation"], .tup [.str "fine"], .tup [.str "refused", .str "lots"], .tup [.str "refused", .str "pin"], .tup [.str "refused", .str "operation"], .tup [.str "fine"], .tup [.str "refused", .str "lots"], .tup [.str "refused", .str "pin"], .tup [.str "refused", .str "operation"], .tup [.str "fine"], .tup [.str "refused", .str "lots"], .tup [.str "refused", .str "pin"], .tup [.str "refused", .str "operation"], .tup [.str "fine"], .tup [.str "refused", .str "lots"], .tup [.str "refused", .str "pin"], .tup [.str "refused", .str "operation"], .tup [.str "fine"]]))
theorem R_law_rightK30_t (c : W) (w1 : W) (w2 : W) (w3 : W) : Q_law_right_6b_4 [some (.b c), some (.v w1), some (.v w2), some (.v w3), za0, za18, some (.v (.gl "walk_shares"))] = .nx [some (.b c), some (.v w1), some (.v w2), some (.v w3), za0, za19, some (.v (.gl "walk_shares"))] := by kernel_rfl
theorem R_law_rightK31_w : Q_law_right_6_w.drop 5 = (.gl "hangs_together") :: Q_law_right_6_w.drop 6 := by kernel_rfl
theorem R_law_rightK31_g (c : W) (w1 : W) (w2 : W) (w3 : W) : (gN 6) (.gl "hangs_together") [some (.b c), some (.v w1), some (.v w2), some (.v w3), za0, za19, some (.v (.gl "walk_shares"))] = some [some (.b c), some (.v w1), some (.v w2), some (.v w3), za0, za19, some (.v (.gl "hangs_together"))] := by kernel_rfl
def za20 : Option Ev := some (.o (.lst [.tup [.str "refused", .str "lots"], .tup [.str "refused", .str "pin"], .tup [.str "refused", .str "operation"], .tup [.str "fine"], .tup [.str "refused", .str "lots"], .tup [.str "refused", .str "pin"], .tup [.str "refused", .str "operation"], .tup [.str "fine"], .tup [.str "refused", .str "lots"], .tup [.str "refused", .str "pin"], .tup [.str "refused", .str "operation"], .tup [.str "fine"], .tup [.str "refused", .str "lots"], .tup [.str "refused", .str "pin"], .tup [.str "refused", .str "operation"], .tup [.str "fine"], .tup [.str "refused", .str "lots"], .tup [.str "refused", .str "pin"], .tup [.str "refused", .str "operation"], .tup [.str "fine"], .tup [.str "refused", .str "lots"]]))
theorem R_law_rightK32_t (c : W) (w3 : W) : (R_law_rightP0.map fun w1 => (R_law_rightP1.map fun w2 => Q_law_right_6b_1 [some (.b c), some (.v w1), some (.v w2), some (.v w3), za0, za19, some (.v (.gl "hangs_together"))])) = (R_law_rightP0.map fun w1 => (R_law_rightP1.map fun w2 => .nx [some (.b c), some (.v w1), some (.v w2), some (.v w3), za0, za20, some (.v (.gl "hangs_together"))])) := by kernel_rfl
def za21 : Option Ev := some (.o (.lst [.tup [.str "refused", .str "lots"], .tup [.str "refused", .str "pin"], .tup [.str "refused", .str "operation"], .tup [.str "fine"], .tup [.str "refused", .str "lots"], .tup [.str "refused", .str "pin"], .tup [.str "refused", .str "operation"], .tup [.str "fine"], .tup [.str "refused", .str "lots"], .tup [.str "refused", .str "pin"], .tup [.str "refused", .str "operation"], .tup [.str "fine"], .tup [.str "refused", .str "lots"], .tup [.str "refused", .str "pin"], .tup [.str "refused", .str "operation"], .tup [.str "fine"], .tup [.str "refused", .str "lots"], .tup [.str "refused", .str "pin"], .tup [.str "refused", .str "operation"], .tup [.str "fine"], .tup [.str "refused", .str "lots"], .tup [.str "refused", .str "pin"]]))
theorem R_law_rightK33_t (c : W) (w1 : W) (w3 : W) : (R_law_rightP1.map fun w2 => Q_law_right_6b_2 [some (.b c), some (.v w1), some (.v w2), some (.v w3), za0, za20, some (.v (.gl "hangs_together"))]) = (R_law_rightP1.map fun w2 => .nx [some (.b c), some (.v w1), some (.v w2), some (.v w3), za0, za21, some (.v (.gl "hangs_together"))]) := by kernel_rfl
def za22 : Option Ev := some (.o (.lst [.tup [.str "refused", .str "lots"], .tup [.str "refused", .str "pin"], .tup [.str "refused", .str "operation"], .tup [.str "fine"], .tup [.str "refused", .str "lots"], .tup [.str "refused", .str "pin"], .tup [.str "refused", .str "operation"], .tup [.str "fine"], .tup [.str "refused", .str "lots"], .tup [.str "refused", .str "pin"], .tup [.str "refused", .str "operation"], .tup [.str "fine"], .tup [.str "refused", .str "lots"], .tup [.str "refused", .str "pin"], .tup [.str "refused", .str "operation"], .tup [.str "fine"], .tup [.str "refused", .str "lots"], .tup [.str "refused", .str "pin"], .tup [.str "refused", .str "operation"], .tup [.str "fine"], .tup [.str "refused", .str "lots"], .tup [.str "refused", .str "pin"], .tup [.str "refused", .str "operation"]]))
theorem R_law_rightK34_t (c : W) (w1 : W) (w2 : W) : (R_law_rightP2.map fun w3 => Q_law_right_6b_3 [some (.b c), some (.v w1), some (.v w2), some (.v w3), za0, za21, some (.v (.gl "hangs_together"))]) = (R_law_rightP2.map fun w3 => .nx [some (.b c), some (.v w1), some (.v w2), some (.v w3), za0, za22, some (.v (.gl "hangs_together"))]) := by kernel_rfl
def za23 : Option Ev := some (.o (.lst [.tup [.str "refused", .str "lots"], .tup [.str "refused", .str "pin"], .tup [.str "refused", .str "operation"], .tup [.str "fine"], .tup [.str "refused", .str "lots"], .tup [.str "refused", .str "pin"], .tup [.str "refused", .str "operation"], .tup [.str "fine"], .tup [.str "refused", .str "lots"], .tup [.str "refused", .str "pin"], .tup [.str "refused", .str "operation"], .tup [.str "fine"], .tup [.str "refused", .str "lots"], .tup [.str "refused", .str "pin"], .tup [.str "refused", .str "operation"], .tup [.str "fine"], .tup [.str "refused", .str "lots"], .tup [.str "refused", .str "pin"], .tup [.str "refused", .str "operation"], .tup [.str "fine"], .tup [.str "refused", .str "lots"], .tup [.str "refused", .str "pin"], .tup [.str "refused", .str "operation"], .tup [.str "fine"]]))
theorem R_law_rightK35_t (c : W) (w1 : W) (w2 : W) (w3 : W) : Q_law_right_6b_4 [some (.b c), some (.v w1), some (.v w2), some (.v w3), za0, za22, some (.v (.gl "hangs_together"))] = .nx [some (.b c), some (.v w1), some (.v w2), some (.v w3), za0, za23, some (.v (.gl "hangs_together"))] := by kernel_rfl
theorem R_law_rightK36_w : Q_law_right_6_w.drop 6 = (.gl "pieces") :: Q_law_right_6_w.drop 7 := by kernel_rfl
theorem R_law_rightK36_g (c : W) (w1 : W) (w2 : W) (w3 : W) : (gN 6) (.gl "pieces") [some (.b c), some (.v w1), some (.v w2), some (.v w3), za0, za23, some (.v (.gl "hangs_together"))] = some [some (.b c), some (.v w1), some (.v w2), some (.v w3), za0, za23, some (.v (.gl "pieces"))] := by kernel_rfl
def za24 : Option Ev := some (.o (.lst [.tup [.str "refused", .str "lots"], .tup [.str "refused", .str "pin"], .tup [.str "refused", .str "operation"], .tup [.str "fine"], .tup [.str "refused", .str "lots"], .tup [.str "refused", .str "pin"], .tup [.str "refused", .str "operation"], .tup [.str "fine"], .tup [.str "refused", .str "lots"], .tup [.str "refused", .str "pin"], .tup [.str "refused", .str "operation"], .tup [.str "fine"], .tup [.str "refused", .str "lots"], .tup [.str "refused", .str "pin"], .tup [.str "refused", .str "operation"], .tup [.str "fine"], .tup [.str "refused", .str "lots"], .tup [.str "refused", .str "pin"], .tup [.str "refused", .str "operation"], .tup [.str "fine"], .tup [.str "refused", .str "lots"], .tup [.str "refused", .str "pin"], .tup [.str "refused", .str "operation"], .tup [.str "fine"], .tup [.str "refused", .str "lots"]]))
theorem R_law_rightK37_t (c : W) (w3 : W) : (R_law_rightP0.map fun w1 => (R_law_rightP1.map fun w2 => Q_law_right_6b_1 [some (.b c), some (.v w1), some (.v w2), some (.v w3), za0, za23, some (.v (.gl "pieces"))])) = (R_law_rightP0.map fun w1 => (R_law_rightP1.map fun w2 => .nx [some (.b c), some (.v w1), some (.v w2), some (.v w3), za0, za24, some (.v (.gl "pieces"))])) := by kernel_rfl
def za25 : Option Ev := some (.o (.lst [.tup [.str "refused", .str "lots"], .tup [.str "refused", .str "pin"], .tup [.str "refused", .str "operation"], .tup [.str "fine"], .tup [.str "refused", .str "lots"], .tup [.str "refused", .str "pin"], .tup [.str "refused", .str "operation"], .tup [.str "fine"], .tup [.str "refused", .str "lots"], .tup [.str "refused", .str "pin"], .tup [.str "refused", .str "operation"], .tup [.str "fine"], .tup [.str "refused", .str "lots"], .tup [.str "refused", .str "pin"], .tup [.str "refused", .str "operation"], .tup [.str "fine"], .tup [.str "refused", .str "lots"], .tup [.str "refused", .str "pin"], .tup [.str "refused", .str "operation"], .tup [.str "fine"], .tup [.str "refused", .str "lots"], .tup [.str "refused", .str "pin"], .tup [.str "refused", .str "operation"], .tup [.str "fine"], .tup [.str "refused", .str "lots"], .tup [.str "refused", .str "pin"]]))
theorem R_law_rightK38_t (c : W) (w1 : W) (w3 : W) : (R_law_rightP1.map fun w2 => Q_law_right_6b_2 [some (.b c), some (.v w1), some (.v w2), some (.v w3), za0, za24, some (.v (.gl "pieces"))]) = (R_law_rightP1.map fun w2 => .nx [some (.b c), some (.v w1), some (.v w2), some (.v w3), za0, za25, some (.v (.gl "pieces"))]) := by kernel_rfl
def za26 : Option Ev := some (.o (.lst [.tup [.str "refused", .str "lots"], .tup [.str "refused", .str "pin"], .tup [.str "refused", .str "operation"], .tup [.str "fine"], .tup [.str "refused", .str "lots"], .tup [.str "refused", .str "pin"], .tup [.str "refused", .str "operation"], .tup [.str "fine"], .tup [.str "refused", .str "lots"], .tup [.str "refused", .str "pin"], .tup [.str "refused", .str "operation"], .tup [.str "fine"], .tup [.str "refused", .str "lots"], .tup [.str "refused", .str "pin"], .tup [.str "refused", .str "operation"], .tup [.str "fine"], .tup [.str "refused", .str "lots"], .tup [.str "refused", .str "pin"], .tup [.str "refused", .str "operation"], .tup [.str "fine"], .tup [.str "refused", .str "lots"], .tup [.str "refused", .str "pin"], .tup [.str "refused", .str "operation"], .tup [.str "fine"], .tup [.str "refused", .str "lots"], .tup [.str "refused", .str "pin"], .tup [.str "refused", .str "operation"]]))
theorem R_law_rightK39_t (c : W) (w1 : W) (w2 : W) : (R_law_rightP2.map fun w3 => Q_law_right_6b_3 [some (.b c), some (.v w1), some (.v w2), some (.v w3), za0, za25, some (.v (.gl "pieces"))]) = (R_law_rightP2.map fun w3 => .nx [some (.b c), some (.v w1), some (.v w2), some (.v w3), za0, za26, some (.v (.gl "pieces"))]) := by kernel_rfl
def za27 : Option Ev := some (.o (.lst [.tup [.str "refused", .str "lots"], .tup [.str "refused", .str "pin"], .tup [.str "refused", .str "operation"], .tup [.str "fine"], .tup [.str "refused", .str "lots"], .tup [.str "refused", .str "pin"], .tup [.str "refused", .str "operation"], .tup [.str "fine"], .tup [.str "refused", .str "lots"], .tup [.str "refused", .str "pin"], .tup [.str "refused", .str "operation"], .tup [.str "fine"], .tup [.str "refused", .str "lots"], .tup [.str "refused", .str "pin"], .tup [.str "refused", .str "operation"], .tup [.str "fine"], .tup [.str "refused", .str "lots"], .tup [.str "refused", .str "pin"], .tup [.str "refused", .str "operation"], .tup [.str "fine"], .tup [.str "refused", .str "lots"], .tup [.str "refused", .str "pin"], .tup [.str "refused", .str "operation"], .tup [.str "fine"], .tup [.str "refused", .str "lots"], .tup [.str "refused", .str "pin"], .tup [.str "refused", .str "operation"], .tup [.str "fine"]]))
theorem R_law_rightK40_t (c : W) (w1 : W) (w2 : W) (w3 : W) : Q_law_right_6b_4 [some (.b c), some (.v w1), some (.v w2), some (.v w3), za0, za26, some (.v (.gl "pieces"))] = .nx [some (.b c), some (.v w1), some (.v w2), some (.v w3), za0, za27, some (.v (.gl "pieces"))] := by kernel_rfl
theorem R_law_rightK41_w : Q_law_right_6_w.drop 7 = (.gl "parting") :: Q_law_right_6_w.drop 8 := by kernel_rfl
theorem R_law_rightK41_g (c : W) (w1 : W) (w2 : W) (w3 : W) : (gN 6) (.gl "parting") [some (.b c), some (.v w1), some (.v w2), some (.v w3), za0, za27, some (.v (.gl "pieces"))] = some [some (.b c), some (.v w1), some (.v w2), some (.v w3), za0, za27, some (.v (.gl "parting"))] := by kernel_rfl
def za28 : Option Ev := some (.o (.lst [.tup [.str "refused", .str "lots"], .tup [.str "refused", .str "pin"], .tup [.str "refused", .str "operation"], .tup [.str "fine"], .tup [.str "refused", .str "lots"], .tup [.str "refused", .str "pin"], .tup [.str "refused", .str "operation"], .tup [.str "fine"], .tup [.str "refused", .str "lots"], .tup [.str "refused", .str "pin"], .tup [.str "refused", .str "operation"], .tup [.str "fine"], .tup [.str "refused", .str "lots"], .tup [.str "refused", .str "pin"], .tup [.str "refused", .str "operation"], .tup [.str "fine"], .tup [.str "refused", .str "lots"], .tup [.str "refused", .str "pin"], .tup [.str "refused", .str "operation"], .tup [.str "fine"], .tup [.str "refused", .str "lots"], .tup [.str "refused", .str "pin"], .tup [.str "refused", .str "operation"], .tup [.str "fine"], .tup [.str "refused", .str "lots"], .tup [.str "refused", .str "pin"], .tup [.str "refused", .str "operation"], .tup [.str "fine"], .tup [.str "refused", .str "lots"]]))
theorem R_law_rightK42_t (c : W) (w3 : W) : (R_law_rightP0.map fun w1 => (R_law_rightP1.map fun w2 => Q_law_right_6b_1 [some (.b c), some (.v w1), some (.v w2), some (.v w3), za0, za27, some (.v (.gl "parting"))])) = (R_law_rightP0.map fun w1 => (R_law_rightP1.map fun w2 => .nx [some (.b c), some (.v w1), some (.v w2), some (.v w3), za0, za28, some (.v (.gl "parting"))])) := by kernel_rfl
def za29 : Option Ev := some (.o (.lst [.tup [.str "refused", .str "lots"], .tup [.str "refused", .str "pin"], .tup [.str "refused", .str "operation"], .tup [.str "fine"], .tup [.str "refused", .str "lots"], .tup [.str "refused", .str "pin"], .tup [.str "refused", .str "operation"], .tup [.str "fine"], .tup [.str "refused", .str "lots"], .tup [.str "refused", .str "pin"], .tup [.str "refused", .str "operation"], .tup [.str "fine"], .tup [.str "refused", .str "lots"], .tup [.str "refused", .str "pin"], .tup [.str "refused", .str "operation"], .tup [.str "fine"], .tup [.str "refused", .str "lots"], .tup [.str "refused", .str "pin"], .tup [.str "refused", .str "operation"], .tup [.str "fine"], .tup [.str "refused", .str "lots"], .tup [.str "refused", .str "pin"], .tup [.str "refused", .str "operation"], .tup [.str "fine"], .tup [.str "refused", .str "lots"], .tup [.str "refused", .str "pin"], .tup [.str "refused", .str "operation"], .tup [.str "fine"], .tup [.str "refused", .str "lots"], .tup [.str "refused", .str "pin"]]))
theorem R_law_rightK43_t (c : W) (w1 : W) (w3 : W) : (R_law_rightP1.map fun w2 => Q_law_right_6b_2 [some (.b c), some (.v w1), some (.v w2), some (.v w3), za0, za28, some (.v (.gl "parting"))]) = (R_law_rightP1.map fun w2 => .nx [some (.b c), some (.v w1), some (.v w2), some (.v w3), za0, za29, some (.v (.gl "parting"))]) := by kernel_rfl
def za30 : Option Ev := some (.o (.lst [.tup [.str "refused", .str "lots"], .tup [.str "refused", .str "pin"], .tup [.str "refused", .str "operation"], .tup [.str "fine"], .tup [.str "refused", .str "lots"], .tup [.str "refused", .str "pin"], .tup [.str "refused", .str "operation"], .tup [.str "fine"], .tup [.str "refused", .str "lots"], .tup [.str "refused", .str "pin"], .tup [.str "refused", .str "operation"], .tup [.str "fine"], .tup [.str "refused", .str "lots"], .tup [.str "refused", .str "pin"], .tup [.str "refused", .str "operation"], .tup [.str "fine"], .tup [.str "refused", .str "lots"], .tup [.str "refused", .str "pin"], .tup [.str "refused", .str "operation"], .tup [.str "fine"], .tup [.str "refused", .str "lots"], .tup [.str "refused", .str "pin"], .tup [.str "refused", .str "operation"], .tup [.str "fine"], .tup [.str "refused", .str "lots"], .tup [.str "refused", .str "pin"], .tup [.str "refused", .str "operation"], .tup [.str "fine"], .tup [.str "refused", .str "lots"], .tup [.str "refused", .str "pin"], .tup [.str "refused", .str "operation"]]))
theorem R_law_rightK44_t (c : W) (w1 : W) (w2 : W) : (R_law_rightP2.map fun w3 => Q_law_right_6b_3 [some (.b c), some (.v w1), some (.v w2), some (.v w3), za0, za29, some (.v (.gl "parting"))]) = (R_law_rightP2.map fun w3 => .nx [some (.b c), some (.v w1), some (.v w2), some (.v w3), za0, za30, some (.v (.gl "parting"))]) := by kernel_rfl
def za31 : Option Ev := some (.o (.lst [.tup [.str "refused", .str "lots"], .tup [.str "refused", .str "pin"], .tup [.str "refused", .str "operation"], .tup [.str "fine"], .tup [.str "refused", .str "lots"], .tup [.str "refused", .str "pin"], .tup [.str "refused", .str "operation"], .tup [.str "fine"], .tup [.str "refused", .str "lots"], .tup [.str "refused", .str "pin"], .tup [.str "refused", .str "operation"], .tup [.str "fine"], .tup [.str "refused", .str "lots"], .tup [.str "refused", .str "pin"], .tup [.str "refused", .str "operation"], .tup [.str "fine"], .tup [.str "refused", .str "lots"], .tup [.str "refused", .str "pin"], .tup [.str "refused", .str "operation"], .tup [.str "fine"], .tup [.str "refused", .str "lots"], .tup [.str "refused", .str "pin"], .tup [.str "refused", .str "operation"], .tup [.str "fine"], .tup [.str "refused", .str "lots"], .tup [.str "refused", .str "pin"], .tup [.str "refused", .str "operation"], .tup [.str "fine"], .tup [.str "refused", .str "lots"], .tup [.str "refused", .str "pin"], .tup [.str "refused", .str "operation"], .tup [.str "fine"]]))
theorem R_law_rightK45_t (c : W) (w1 : W) (w2 : W) (w3 : W) : Q_law_right_6b_4 [some (.b c), some (.v w1), some (.v w2), some (.v w3), za0, za30, some (.v (.gl "parting"))] = .nx [some (.b c), some (.v w1), some (.v w2), some (.v w3), za0, za31, some (.v (.gl "parting"))] := by kernel_rfl
def za32 : Option Ev := some (.o (.lst [.tup [.str "refused", .str "lots"], .tup [.str "refused", .str "pin"], .tup [.str "refused", .str "operation"], .tup [.str "fine"], .tup [.str "refused", .str "lots"], .tup [.str "refused", .str "pin"], .tup [.str "refused", .str "operation"], .tup [.str "fine"], .tup [.str "refused", .str "lots"], .tup [.str "refused", .str "pin"], .tup [.str "refused", .str "operation"], .tup [.str "fine"], .tup [.str "refused", .str "lots"], .tup [.str "refused", .str "pin"], .tup [.str "refused", .str "operation"], .tup [.str "fine"], .tup [.str "refused", .str "lots"], .tup [.str "refused", .str "pin"], .tup [.str "refused", .str "operation"], .tup [.str "fine"], .tup [.str "refused", .str "lots"], .tup [.str "refused", .str "pin"], .tup [.str "refused", .str "operation"], .tup [.str "fine"], .tup [.str "refused", .str "lots"], .tup [.str "refused", .str "pin"], .tup [.str "refused", .str "operation"], .tup [.str "fine"], .tup [.str "refused", .str "lots"], .tup [.str "refused", .str "pin"], .tup [.str "refused", .str "operation"], .tup [.str "fine"], .tup [.str "refused", .str "lots"]]))
theorem R_law_rightK47_t (c : W) (w3 : W) : (R_law_rightP0.map fun w1 => (R_law_rightP1.map fun w2 => Q_law_right_7 [some (.b c), some (.v w1), some (.v w2), some (.v w3), za0, za31, some (.v (.gl "parting"))])) = (R_law_rightP0.map fun w1 => (R_law_rightP1.map fun w2 => .nx [some (.b c), some (.v w1), some (.v w2), some (.v w3), za0, za32, some (.v (.gl "parting"))])) := by kernel_rfl
def za33 : Option Ev := some (.o (.lst [.tup [.str "refused", .str "lots"], .tup [.str "refused", .str "pin"], .tup [.str "refused", .str "operation"], .tup [.str "fine"], .tup [.str "refused", .str "lots"], .tup [.str "refused", .str "pin"], .tup [.str "refused", .str "operation"], .tup [.str "fine"], .tup [.str "refused", .str "lots"], .tup [.str "refused", .str "pin"], .tup [.str "refused", .str "operation"], .tup [.str "fine"], .tup [.str "refused", .str "lots"], .tup [.str "refused", .str "pin"], .tup [.str "refused", .str "operation"], .tup [.str "fine"], .tup [.str "refused", .str "lots"], .tup [.str "refused", .str "pin"], .tup [.str "refused", .str "operation"], .tup [.str "fine"], .tup [.str "refused", .str "lots"], .tup [.str "refused", .str "pin"], .tup [.str "refused", .str "operation"], .tup [.str "fine"], .tup [.str "refused", .str "lots"], .tup [.str "refused", .str "pin"], .tup [.str "refused", .str "operation"], .tup [.str "fine"], .tup [.str "refused", .str "lots"], .tup [.str "refused", .str "pin"], .tup [.str "refused", .str "operation"], .tup [.str "fine"], .tup [.str "refused", .str "lots"], .tup [.str "refused", .str "pin"]]))
theorem R_law_rightK48_t (c : W) (w1 : W) (w3 : W) : (R_law_rightP1.map fun w2 => Q_law_right_8 [some (.b c), some (.v w1), some (.v w2), some (.v w3), za0, za32, some (.v (.gl "parting"))]) = (R_law_rightP1.map fun w2 => .nx [some (.b c), some (.v w1), some (.v w2), some (.v w3), za0, za33, some (.v (.gl "parting"))]) := by kernel_rfl
def za34 : Option Ev := some (.o (.lst [.tup [.str "refused", .str "lots"], .tup [.str "refused", .str "pin"], .tup [.str "refused", .str "operation"], .tup [.str "fine"], .tup [.str "refused", .str "lots"], .tup [.str "refused", .str "pin"], .tup [.str "refused", .str "operation"], .tup [.str "fine"], .tup [.str "refused", .str "lots"], .tup [.str "refused", .str "pin"], .tup [.str "refused", .str "operation"], .tup [.str "fine"], .tup [.str "refused", .str "lots"], .tup [.str "refused", .str "pin"], .tup [.str "refused", .str "operation"], .tup [.str "fine"], .tup [.str "refused", .str "lots"], .tup [.str "refused", .str "pin"], .tup [.str "refused", .str "operation"], .tup [.str "fine"], .tup [.str "refused", .str "lots"], .tup [.str "refused", .str "pin"], .tup [.str "refused", .str "operation"], .tup [.str "fine"], .tup [.str "refused", .str "lots"], .tup [.str "refused", .str "pin"], .tup [.str "refused", .str "operation"], .tup [.str "fine"], .tup [.str "refused", .str "lots"], .tup [.str "refused", .str "pin"], .tup [.str "refused", .str "operation"], .tup [.str "fine"], .tup [.str "refused", .str "lots"], .tup [.str "refused", .str "pin"], .tup [.str "refused", .str "operation"]]))
theorem R_law_rightK49_t (c : W) (w1 : W) (w2 : W) : (R_law_rightP2.map fun w3 => Q_law_right_9 [some (.b c), some (.v w1), some (.v w2), some (.v w3), za0, za33, some (.v (.gl "parting"))]) = (R_law_rightP2.map fun w3 => .nx [some (.b c), some (.v w1), some (.v w2), some (.v w3), za0, za34, some (.v (.gl "parting"))]) := by kernel_rfl
def za35 : Option Ev := some (.o (.lst [.tup [.str "refused", .str "lots"], .tup [.str "refused", .str "pin"], .tup [.str "refused", .str "operation"], .tup [.str "fine"], .tup [.str "refused", .str "lots"], .tup [.str "refused", .str "pin"], .tup [.str "refused", .str "operation"], .tup [.str "fine"], .tup [.str "refused", .str "lots"], .tup [.str "refused", .str "pin"], .tup [.str "refused", .str "operation"], .tup [.str "fine"], .tup [.str "refused", .str "lots"], .tup [.str "refused", .str "pin"], .tup [.str "refused", .str "operation"], .tup [.str "fine"], .tup [.str "refused", .str "lots"], .tup [.str "refused", .str "pin"], .tup [.str "refused", .str "operation"], .tup [.str "fine"], .tup [.str "refused", .str "lots"], .tup [.str "refused", .str "pin"], .tup [.str "refused", .str "operation"], .tup [.str "fine"], .tup [.str "refused", .str "lots"], .tup [.str "refused", .str "pin"], .tup [.str "refused", .str "operation"], .tup [.str "fine"], .tup [.str "refused", .str "lots"], .tup [.str "refused", .str "pin"], .tup [.str "refused", .str "operation"], .tup [.str "fine"], .tup [.str "refused", .str "lots"], .tup [.str "refused", .str "pin"], .tup [.str "refused", .str "operation"], .tup [.str "fine"]]))
theorem R_law_rightK50_t (c : W) (w1 : W) (w2 : W) (w3 : W) : Q_law_right_10 [some (.b c), some (.v w1), some (.v w2), some (.v w3), za0, za34, some (.v (.gl "parting"))] = .nx [some (.b c), some (.v w1), some (.v w2), some (.v w3), za0, za35, some (.v (.gl "parting"))] := by kernel_rfl
def za36 : Option Ev := some (.v (.lst [.tup [.str "refused", .str "lots"], .tup [.str "refused", .str "pin"], .tup [.str "refused", .str "operation"], .tup [.str "fine"], .tup [.str "refused", .str "lots"], .tup [.str "refused", .str "pin"], .tup [.str "refused", .str "operation"], .tup [.str "fine"], .tup [.str "refused", .str "lots"], .tup [.str "refused", .str "pin"], .tup [.str "refused", .str "operation"], .tup [.str "fine"], .tup [.str "refused", .str "lots"], .tup [.str "refused", .str "pin"], .tup [.str "refused", .str "operation"], .tup [.str "fine"], .tup [.str "refused", .str "lots"], .tup [.str "refused", .str "pin"], .tup [.str "refused", .str "operation"], .tup [.str "fine"], .tup [.str "refused", .str "lots"], .tup [.str "refused", .str "pin"], .tup [.str "refused", .str "operation"], .tup [.str "fine"], .tup [.str "refused", .str "lots"], .tup [.str "refused", .str "pin"], .tup [.str "refused", .str "operation"], .tup [.str "fine"], .tup [.str "refused", .str "lots"], .tup [.str "refused", .str "pin"], .tup [.str "refused", .str "operation"], .tup [.str "fine"], .tup [.str "refused", .str "lots"], .tup [.str "refused", .str "pin"], .tup [.str "refused", .str "operation"], .tup [.str "fine"]]))
theorem R_law_rightK51_t (c : W) (w1 : W) (w2 : W) (w3 : W) : Q_law_right_11 [some (.b c), some (.v w1), some (.v w2), some (.v w3), za0, za35, some (.v (.gl "parting"))] = .ret (.bl true) [some (.b c), some (.v w1), some (.v w2), some (.v w3), za0, za36, some (.v (.gl "parting"))] := by kernel_rfl
theorem R_law_rightK51 {k : Nat} {c : W} (hk : k ≤ 900) (d : Dice (k + 3) c) (w1 : W) (h1 : w1 ∈ R_law_rightP0) (w2 : W) (h2 : w2 ∈ R_law_rightP1) (w3 : W) (h3 : w3 ∈ R_law_rightP2) : Rd (Dice (k + 3)) (U_law_right_11 [some (.b c), some (.v w1), some (.v w2), some (.v w3), za0, za35, some (.v (.gl "parting"))]) := Rd.end (R_law_rightK51_t c w1 w2 w3) (d.mono (by omega))
theorem R_law_rightK50 {k : Nat} {c : W} (hk : k ≤ 900) (d : Dice (k + 3) c) (w1 : W) (h1 : w1 ∈ R_law_rightP0) (w2 : W) (h2 : w2 ∈ R_law_rightP1) (w3 : W) (h3 : w3 ∈ R_law_rightP2) : Rd (Dice (k + 3)) (U_law_right_10 [some (.b c), some (.v w1), some (.v w2), some (.v w3), za0, za34, some (.v (.gl "parting"))]) := Rd.seq (R_law_rightK50_t c w1 w2 w3) (R_law_rightK51 hk d w1 h1 w2 h2 w3 h3)
theorem R_law_rightK49 {k : Nat} {c : W} (hk : k ≤ 900) (d : Dice (k + 3) c) (w1 : W) (h1 : w1 ∈ R_law_rightP0) (w2 : W) (h2 : w2 ∈ R_law_rightP1) (w3 : W) (h3 : w3 ∈ R_law_rightP2) : Rd (Dice (k + 3)) (U_law_right_9 [some (.b c), some (.v w1), some (.v w2), some (.v w3), za0, za33, some (.v (.gl "parting"))]) := Rd.seq (List.map_inj_left.mp (R_law_rightK49_t c w1 w2) w3 h3) (R_law_rightK50 hk d w1 h1 w2 h2 w3 h3)
theorem R_law_rightK48 {k : Nat} {c : W} (hk : k ≤ 900) (d : Dice (k + 3) c) (w1 : W) (h1 : w1 ∈ R_law_rightP0) (w2 : W) (h2 : w2 ∈ R_law_rightP1) (w3 : W) (h3 : w3 ∈ R_law_rightP2) : Rd (Dice (k + 3)) (U_law_right_8 [some (.b c), some (.v w1), some (.v w2), some (.v w3), za0, za32, some (.v (.gl "parting"))]) := Rd.seq (List.map_inj_left.mp (R_law_rightK48_t c w1 w3) w2 h2) (R_law_rightK49 hk d w1 h1 w2 h2 w3 h3)
theorem R_law_rightK47 {k : Nat} {c : W} (hk : k ≤ 900) (d : Dice (k + 3) c) (w1 : W) (h1 : w1 ∈ R_law_rightP0) (w2 : W) (h2 : w2 ∈ R_law_rightP1) (w3 : W) (h3 : w3 ∈ R_law_rightP2) : Rd (Dice (k + 3)) (U_law_right_7 [some (.b c), some (.v w1), some (.v w2), some (.v w3), za0, za31, some (.v (.gl "parting"))]) := Rd.seq (List.map_inj_left.mp (List.map_inj_left.mp (R_law_rightK47_t c w3) w1 h1) w2 h2) (R_law_rightK48 hk d w1 h1 w2 h2 w3 h3)
theorem R_law_rightK46 {k : Nat} {c : W} (hk : k ≤ 900) (d : Dice (k + 3) c) (w1 : W) (h1 : w1 ∈ R_law_rightP0) (w2 : W) (h2 : w2 ∈ R_law_rightP1) (w3 : W) (h3 : w3 ∈ R_law_rightP2) : Rd (Dice (k + 3)) (U_law_right_6L_8 [some (.b c), some (.v w1), some (.v w2), some (.v w3), za0, za31, some (.v (.gl "parting"))]) := Rd.leave (v := U_law_right_6L_8) (u := U_law_right_7) rfl (by kernel_rfl) (R_law_rightK47 hk d w1 h1 w2 h2 w3 h3)
theorem R_law_rightK45 {k : Nat} {c : W} (hk : k ≤ 900) (d : Dice (k + 3) c) (w1 : W) (h1 : w1 ∈ R_law_rightP0) (w2 : W) (h2 : w2 ∈ R_law_rightP1) (w3 : W) (h3 : w3 ∈ R_law_rightP2) : Rd (Dice (k + 3)) (U_law_right_6B_7_4 [some (.b c), some (.v w1), some (.v w2), some (.v w3), za0, za30, some (.v (.gl "parting"))]) := Rd.seq (R_law_rightK45_t c w1 w2 w3) (R_law_rightK46 hk d w1 h1 w2 h2 w3 h3)
theorem R_law_rightK44 {k : Nat} {c : W} (hk : k ≤ 900) (d : Dice (k + 3) c) (w1 : W) (h1 : w1 ∈ R_law_rightP0) (w2 : W) (h2 : w2 ∈ R_law_rightP1) (w3 : W) (h3 : w3 ∈ R_law_rightP2) : Rd (Dice (k + 3)) (U_law_right_6B_7_3 [some (.b c), some (.v w1), some (.v w2), some (.v w3), za0, za29, some (.v (.gl "parting"))]) := Rd.bit (b := U_law_right_6B_7_3) (r := Q_law_right_6r_3) (b' := U_law_right_6B_7_4) rfl rfl rfl (List.map_inj_left.mp (R_law_rightK44_t c w1 w2) w3 h3) (R_law_rightK45 hk d w1 h1 w2 h2 w3 h3)
theorem R_law_rightK43 {k : Nat} {c : W} (hk : k ≤ 900) (d : Dice (k + 3) c) (w1 : W) (h1 : w1 ∈ R_law_rightP0) (w2 : W) (h2 : w2 ∈ R_law_rightP1) (w3 : W) (h3 : w3 ∈ R_law_rightP2) : Rd (Dice (k + 3)) (U_law_right_6B_7_2 [some (.b c), some (.v w1), some (.v w2), some (.v w3), za0, za28, some (.v (.gl "parting"))]) := Rd.bit (b := U_law_right_6B_7_2) (r := Q_law_right_6r_2) (b' := U_law_right_6B_7_3) rfl rfl rfl (List.map_inj_left.mp (R_law_rightK43_t c w1 w3) w2 h2) (R_law_rightK44 hk d w1 h1 w2 h2 w3 h3)
theorem R_law_rightK42 {k : Nat} {c : W} (hk : k ≤ 900) (d : Dice (k + 3) c) (w1 : W) (h1 : w1 ∈ R_law_rightP0) (w2 : W) (h2 : w2 ∈ R_law_rightP1) (w3 : W) (h3 : w3 ∈ R_law_rightP2) : Rd (Dice (k + 3)) (U_law_right_6B_7_1 [some (.b c), some (.v w1), some (.v w2), some (.v w3), za0, za27, some (.v (.gl "parting"))]) := Rd.bit (b := U_law_right_6B_7_1) (r := Q_law_right_6r_1) (b' := U_law_right_6B_7_2) rfl rfl rfl (List.map_inj_left.mp (List.map_inj_left.mp (R_law_rightK42_t c w3) w1 h1) w2 h2) (R_law_rightK43 hk d w1 h1 w2 h2 w3 h3)
theorem R_law_rightK41 {k : Nat} {c : W} (hk : k ≤ 900) (d : Dice (k + 3) c) (w1 : W) (h1 : w1 ∈ R_law_rightP0) (w2 : W) (h2 : w2 ∈ R_law_rightP1) (w3 : W) (h3 : w3 ∈ R_law_rightP2) : Rd (Dice (k + 3)) (U_law_right_6L_7 [some (.b c), some (.v w1), some (.v w2), some (.v w3), za0, za27, some (.v (.gl "pieces"))]) := Rd.item (v := U_law_right_6L_7) (b := U_law_right_6B_7_1) rfl rfl rfl R_law_rightK41_w (R_law_rightK41_g c w1 w2 w3) (R_law_rightK42 hk d w1 h1 w2 h2 w3 h3)
theorem R_law_rightK40 {k : Nat} {c : W} (hk : k ≤ 900) (d : Dice (k + 3) c) (w1 : W) (h1 : w1 ∈ R_law_rightP0) (w2 : W) (h2 : w2 ∈ R_law_rightP1) (w3 : W) (h3 : w3 ∈ R_law_rightP2) : Rd (Dice (k + 3)) (U_law_right_6B_6_4 [some (.b c), some (.v w1), some (.v w2), some (.v w3), za0, za26, some (.v (.gl "pieces"))]) := Rd.seq (R_law_rightK40_t c w1 w2 w3) (R_law_rightK41 hk d w1 h1 w2 h2 w3 h3)
theorem R_law_rightK39 {k : Nat} {c : W} (hk : k ≤ 900) (d : Dice (k + 3) c) (w1 : W) (h1 : w1 ∈ R_law_rightP0) (w2 : W) (h2 : w2 ∈ R_law_rightP1) (w3 : W) (h3 : w3 ∈ R_law_rightP2) : Rd (Dice (k + 3)) (U_law_right_6B_6_3 [some (.b c), some (.v w1), some (.v w2), some (.v w3), za0, za25, some (.v (.gl "pieces"))]) := Rd.bit (b := U_law_right_6B_6_3) (r := Q_law_right_6r_3) (b' := U_law_right_6B_6_4) rfl rfl rfl (List.map_inj_left.mp (R_law_rightK39_t c w1 w2) w3 h3) (R_law_rightK40 hk d w1 h1 w2 h2 w3 h3)
theorem R_law_rightK38 {k : Nat} {c : W} (hk : k ≤ 900) (d : Dice (k + 3) c) (w1 : W) (h1 : w1 ∈ R_law_rightP0) (w2 : W) (h2 : w2 ∈ R_law_rightP1) (w3 : W) (h3 : w3 ∈ R_law_rightP2) : Rd (Dice (k + 3)) (U_law_right_6B_6_2 [some (.b c), some (.v w1), some (.v w2), some (.v w3), za0, za24, some (.v (.gl "pieces"))]) := Rd.bit (b := U_law_right_6B_6_2) (r := Q_law_right_6r_2) (b' := U_law_right_6B_6_3) rfl rfl rfl (List.map_inj_left.mp (R_law_rightK38_t c w1 w3) w2 h2) (R_law_rightK39 hk d w1 h1 w2 h2 w3 h3)
theorem R_law_rightK37 {k : Nat} {c : W} (hk : k ≤ 900) (d : Dice (k + 3) c) (w1 : W) (h1 : w1 ∈ R_law_rightP0) (w2 : W) (h2 : w2 ∈ R_law_rightP1) (w3 : W) (h3 : w3 ∈ R_law_rightP2) : Rd (Dice (k + 3)) (U_law_right_6B_6_1 [some (.b c), some (.v w1), some (.v w2), some (.v w3), za0, za23, some (.v (.gl "pieces"))]) := Rd.bit (b := U_law_right_6B_6_1) (r := Q_law_right_6r_1) (b' := U_law_right_6B_6_2) rfl rfl rfl (List.map_inj_left.mp (List.map_inj_left.mp (R_law_rightK37_t c w3) w1 h1) w2 h2) (R_law_rightK38 hk d w1 h1 w2 h2 w3 h3)
theorem R_law_rightK36 {k : Nat} {c : W} (hk : k ≤ 900) (d : Dice (k + 3) c) (w1 : W) (h1 : w1 ∈ R_law_rightP0) (w2 : W) (h2 : w2 ∈ R_law_rightP1) (w3 : W) (h3 : w3 ∈ R_law_rightP2) : Rd (Dice (k + 3)) (U_law_right_6L_6 [some (.b c), some (.v w1), some (.v w2), some (.v w3), za0, za23, some (.v (.gl "hangs_together"))]) := Rd.item (v := U_law_right_6L_6) (b := U_law_right_6B_6_1) rfl rfl rfl R_law_rightK36_w (R_law_rightK36_g c w1 w2 w3) (R_law_rightK37 hk d w1 h1 w2 h2 w3 h3)
theorem R_law_rightK35 {k : Nat} {c : W} (hk : k ≤ 900) (d : Dice (k + 3) c) (w1 : W) (h1 : w1 ∈ R_law_rightP0) (w2 : W) (h2 : w2 ∈ R_law_rightP1) (w3 : W) (h3 : w3 ∈ R_law_rightP2) : Rd (Dice (k + 3)) (U_law_right_6B_5_4 [some (.b c), some (.v w1), some (.v w2), some (.v w3), za0, za22, some (.v (.gl "hangs_together"))]) := Rd.seq (R_law_rightK35_t c w1 w2 w3) (R_law_rightK36 hk d w1 h1 w2 h2 w3 h3)
theorem R_law_rightK34 {k : Nat} {c : W} (hk : k ≤ 900) (d : Dice (k + 3) c) (w1 : W) (h1 : w1 ∈ R_law_rightP0) (w2 : W) (h2 : w2 ∈ R_law_rightP1) (w3 : W) (h3 : w3 ∈ R_law_rightP2) : Rd (Dice (k + 3)) (U_law_right_6B_5_3 [some (.b c), some (.v w1), some (.v w2), some (.v w3), za0, za21, some (.v (.gl "hangs_together"))]) := Rd.bit (b := U_law_right_6B_5_3) (r := Q_law_right_6r_3) (b' := U_law_right_6B_5_4) rfl rfl rfl (List.map_inj_left.mp (R_law_rightK34_t c w1 w2) w3 h3) (R_law_rightK35 hk d w1 h1 w2 h2 w3 h3)
theorem R_law_rightK33 {k : Nat} {c : W} (hk : k ≤ 900) (d : Dice (k + 3) c) (w1 : W) (h1 : w1 ∈ R_law_rightP0) (w2 : W) (h2 : w2 ∈ R_law_rightP1) (w3 : W) (h3 : w3 ∈ R_law_rightP2) : Rd (Dice (k + 3)) (U_law_right_6B_5_2 [some (.b c), some (.v w1), some (.v w2), some (.v w3), za0, za20, some (.v (.gl "hangs_together"))]) := Rd.bit (b := U_law_right_6B_5_2) (r := Q_law_right_6r_2) (b' := U_law_right_6B_5_3) rfl rfl rfl (List.map_inj_left.mp (R_law_rightK33_t c w1 w3) w2 h2) (R_law_rightK34 hk d w1 h1 w2 h2 w3 h3)
theorem R_law_rightK32 {k : Nat} {c : W} (hk : k ≤ 900) (d : Dice (k + 3) c) (w1 : W) (h1 : w1 ∈ R_law_rightP0) (w2 : W) (h2 : w2 ∈ R_law_rightP1) (w3 : W) (h3 : w3 ∈ R_law_rightP2) : Rd (Dice (k + 3)) (U_law_right_6B_5_1 [some (.b c), some (.v w1), some (.v w2), some (.v w3), za0, za19, some (.v (.gl "hangs_together"))]) := Rd.bit (b := U_law_right_6B_5_1) (r := Q_law_right_6r_1) (b' := U_law_right_6B_5_2) rfl rfl rfl (List.map_inj_left.mp (List.map_inj_left.mp (R_law_rightK32_t c w3) w1 h1) w2 h2) (R_law_rightK33 hk d w1 h1 w2 h2 w3 h3)
theorem R_law_rightK31 {k : Nat} {c : W} (hk : k ≤ 900) (d : Dice (k + 3) c) (w1 : W) (h1 : w1 ∈ R_law_rightP0) (w2 : W) (h2 : w2 ∈ R_law_rightP1) (w3 : W) (h3 : w3 ∈ R_law_rightP2) : Rd (Dice (k + 3)) (U_law_right_6L_5 [some (.b c), some (.v w1), some (.v w2), some (.v w3), za0, za19, some (.v (.gl "walk_shares"))]) := Rd.item (v := U_law_right_6L_5) (b := U_law_right_6B_5_1) rfl rfl rfl R_law_rightK31_w (R_law_rightK31_g c w1 w2 w3) (R_law_rightK32 hk d w1 h1 w2 h2 w3 h3)
theorem R_law_rightK30 {k : Nat} {c : W} (hk : k ≤ 900) (d : Dice (k + 3) c) (w1 : W) (h1 : w1 ∈ R_law_rightP0) (w2 : W) (h2 : w2 ∈ R_law_rightP1) (w3 : W) (h3 : w3 ∈ R_law_rightP2) : Rd (Dice (k + 3)) (U_law_right_6B_4_4 [some (.b c), some (.v w1), some (.v w2), some (.v w3), za0, za18, some (.v (.gl "walk_shares"))]) := Rd.seq (R_law_rightK30_t c w1 w2 w3) (R_law_rightK31 hk d w1 h1 w2 h2 w3 h3)
theorem R_law_rightK29 {k : Nat} {c : W} (hk : k ≤ 900) (d : Dice (k + 3) c) (w1 : W) (h1 : w1 ∈ R_law_rightP0) (w2 : W) (h2 : w2 ∈ R_law_rightP1) (w3 : W) (h3 : w3 ∈ R_law_rightP2) : Rd (Dice (k + 3)) (U_law_right_6B_4_3 [some (.b c), some (.v w1), some (.v w2), some (.v w3), za0, za17, some (.v (.gl "walk_shares"))]) := Rd.bit (b := U_law_right_6B_4_3) (r := Q_law_right_6r_3) (b' := U_law_right_6B_4_4) rfl rfl rfl (List.map_inj_left.mp (R_law_rightK29_t c w1 w2) w3 h3) (R_law_rightK30 hk d w1 h1 w2 h2 w3 h3)
theorem R_law_rightK28 {k : Nat} {c : W} (hk : k ≤ 900) (d : Dice (k + 3) c) (w1 : W) (h1 : w1 ∈ R_law_rightP0) (w2 : W) (h2 : w2 ∈ R_law_rightP1) (w3 : W) (h3 : w3 ∈ R_law_rightP2) : Rd (Dice (k + 3)) (U_law_right_6B_4_2 [some (.b c), some (.v w1), some (.v w2), some (.v w3), za0, za16, some (.v (.gl "walk_shares"))]) := Rd.bit (b := U_law_right_6B_4_2) (r := Q_law_right_6r_2) (b' := U_law_right_6B_4_3) rfl rfl rfl (List.map_inj_left.mp (R_law_rightK28_t c w1 w3) w2 h2) (R_law_rightK29 hk d w1 h1 w2 h2 w3 h3)
theorem R_law_rightK27 {k : Nat} {c : W} (hk : k ≤ 900) (d : Dice (k + 3) c) (w1 : W) (h1 : w1 ∈ R_law_rightP0) (w2 : W) (h2 : w2 ∈ R_law_rightP1) (w3 : W) (h3 : w3 ∈ R_law_rightP2) : Rd (Dice (k + 3)) (U_law_right_6B_4_1 [some (.b c), some (.v w1), some (.v w2), some (.v w3), za0, za15, some (.v (.gl "walk_shares"))]) := Rd.bit (b := U_law_right_6B_4_1) (r := Q_law_right_6r_1) (b' := U_law_right_6B_4_2) rfl rfl rfl (List.map_inj_left.mp (List.map_inj_left.mp (R_law_rightK27_t c w3) w1 h1) w2 h2) (R_law_rightK28 hk d w1 h1 w2 h2 w3 h3)
theorem R_law_rightK26 {k : Nat} {c : W} (hk : k ≤ 900) (d : Dice (k + 3) c) (w1 : W) (h1 : w1 ∈ R_law_rightP0) (w2 : W) (h2 : w2 ∈ R_law_rightP1) (w3 : W) (h3 : w3 ∈ R_law_rightP2) : Rd (Dice (k + 3)) (U_law_right_6L_4 [some (.b c), some (.v w1), some (.v w2), some (.v w3), za0, za15, some (.v (.gl "local_walk"))]) := Rd.item (v := U_law_right_6L_4) (b := U_law_right_6B_4_1) rfl rfl rfl R_law_rightK26_w (R_law_rightK26_g c w1 w2 w3) (R_law_rightK27 hk d w1 h1 w2 h2 w3 h3)
theorem R_law_rightK25 {k : Nat} {c : W} (hk : k ≤ 900) (d : Dice (k + 3) c) (w1 : W) (h1 : w1 ∈ R_law_rightP0) (w2 : W) (h2 : w2 ∈ R_law_rightP1) (w3 : W) (h3 : w3 ∈ R_law_rightP2) : Rd (Dice (k + 3)) (U_law_right_6B_3_4 [some (.b c), some (.v w1), some (.v w2), some (.v w3), za0, za14, some (.v (.gl "local_walk"))]) := Rd.seq (R_law_rightK25_t c w1 w2 w3) (R_law_rightK26 hk d w1 h1 w2 h2 w3 h3)
theorem R_law_rightK24 {k : Nat} {c : W} (hk : k ≤ 900) (d : Dice (k + 3) c) (w1 : W) (h1 : w1 ∈ R_law_rightP0) (w2 : W) (h2 : w2 ∈ R_law_rightP1) (w3 : W) (h3 : w3 ∈ R_law_rightP2) : Rd (Dice (k + 3)) (U_law_right_6B_3_3 [some (.b c), some (.v w1), some (.v w2), some (.v w3), za0, za13, some (.v (.gl "local_walk"))]) := Rd.bit (b := U_law_right_6B_3_3) (r := Q_law_right_6r_3) (b' := U_law_right_6B_3_4) rfl rfl rfl (List.map_inj_left.mp (R_law_rightK24_t c w1 w2) w3 h3) (R_law_rightK25 hk d w1 h1 w2 h2 w3 h3)
theorem R_law_rightK23 {k : Nat} {c : W} (hk : k ≤ 900) (d : Dice (k + 3) c) (w1 : W) (h1 : w1 ∈ R_law_rightP0) (w2 : W) (h2 : w2 ∈ R_law_rightP1) (w3 : W) (h3 : w3 ∈ R_law_rightP2) : Rd (Dice (k + 3)) (U_law_right_6B_3_2 [some (.b c), some (.v w1), some (.v w2), some (.v w3), za0, za12, some (.v (.gl "local_walk"))]) := Rd.bit (b := U_law_right_6B_3_2) (r := Q_law_right_6r_2) (b' := U_law_right_6B_3_3) rfl rfl rfl (List.map_inj_left.mp (R_law_rightK23_t c w1 w3) w2 h2) (R_law_rightK24 hk d w1 h1 w2 h2 w3 h3)
theorem R_law_rightK22 {k : Nat} {c : W} (hk : k ≤ 900) (d : Dice (k + 3) c) (w1 : W) (h1 : w1 ∈ R_law_rightP0) (w2 : W) (h2 : w2 ∈ R_law_rightP1) (w3 : W) (h3 : w3 ∈ R_law_rightP2) : Rd (Dice (k + 3)) (U_law_right_6B_3_1 [some (.b c), some (.v w1), some (.v w2), some (.v w3), za0, za11, some (.v (.gl "local_walk"))]) := Rd.bit (b := U_law_right_6B_3_1) (r := Q_law_right_6r_1) (b' := U_law_right_6B_3_2) rfl rfl rfl (List.map_inj_left.mp (List.map_inj_left.mp (R_law_rightK22_t c w3) w1 h1) w2 h2) (R_law_rightK23 hk d w1 h1 w2 h2 w3 h3)
theorem R_law_rightK21 {k : Nat} {c : W} (hk : k ≤ 900) (d : Dice (k + 3) c) (w1 : W) (h1 : w1 ∈ R_law_rightP0) (w2 : W) (h2 : w2 ∈ R_law_rightP1) (w3 : W) (h3 : w3 ∈ R_law_rightP2) : Rd (Dice (k + 3)) (U_law_right_6L_3 [some (.b c), some (.v w1), some (.v w2), some (.v w3), za0, za11, some (.v (.gl "masses"))]) := Rd.item (v := U_law_right_6L_3) (b := U_law_right_6B_3_1) rfl rfl rfl R_law_rightK21_w (R_law_rightK21_g c w1 w2 w3) (R_law_rightK22 hk d w1 h1 w2 h2 w3 h3)
theorem R_law_rightK20 {k : Nat} {c : W} (hk : k ≤ 900) (d : Dice (k + 3) c) (w1 : W) (h1 : w1 ∈ R_law_rightP0) (w2 : W) (h2 : w2 ∈ R_law_rightP1) (w3 : W) (h3 : w3 ∈ R_law_rightP2) : Rd (Dice (k + 3)) (U_law_right_6B_2_4 [some (.b c), some (.v w1), some (.v w2), some (.v w3), za0, za10, some (.v (.gl "masses"))]) := Rd.seq (R_law_rightK20_t c w1 w2 w3) (R_law_rightK21 hk d w1 h1 w2 h2 w3 h3)
theorem R_law_rightK19 {k : Nat} {c : W} (hk : k ≤ 900) (d : Dice (k + 3) c) (w1 : W) (h1 : w1 ∈ R_law_rightP0) (w2 : W) (h2 : w2 ∈ R_law_rightP1) (w3 : W) (h3 : w3 ∈ R_law_rightP2) : Rd (Dice (k + 3)) (U_law_right_6B_2_3 [some (.b c), some (.v w1), some (.v w2), some (.v w3), za0, za9, some (.v (.gl "masses"))]) := Rd.bit (b := U_law_right_6B_2_3) (r := Q_law_right_6r_3) (b' := U_law_right_6B_2_4) rfl rfl rfl (List.map_inj_left.mp (R_law_rightK19_t c w1 w2) w3 h3) (R_law_rightK20 hk d w1 h1 w2 h2 w3 h3)
theorem R_law_rightK18 {k : Nat} {c : W} (hk : k ≤ 900) (d : Dice (k + 3) c) (w1 : W) (h1 : w1 ∈ R_law_rightP0) (w2 : W) (h2 : w2 ∈ R_law_rightP1) (w3 : W) (h3 : w3 ∈ R_law_rightP2) : Rd (Dice (k + 3)) (U_law_right_6B_2_2 [some (.b c), some (.v w1), some (.v w2), some (.v w3), za0, za8, some (.v (.gl "masses"))]) := Rd.bit (b := U_law_right_6B_2_2) (r := Q_law_right_6r_2) (b' := U_law_right_6B_2_3) rfl rfl rfl (List.map_inj_left.mp (R_law_rightK18_t c w1 w3) w2 h2) (R_law_rightK19 hk d w1 h1 w2 h2 w3 h3)
theorem R_law_rightK17 {k : Nat} {c : W} (hk : k ≤ 900) (d : Dice (k + 3) c) (w1 : W) (h1 : w1 ∈ R_law_rightP0) (w2 : W) (h2 : w2 ∈ R_law_rightP1) (w3 : W) (h3 : w3 ∈ R_law_rightP2) : Rd (Dice (k + 3)) (U_law_right_6B_2_1 [some (.b c), some (.v w1), some (.v w2), some (.v w3), za0, za7, some (.v (.gl "masses"))]) := Rd.bit (b := U_law_right_6B_2_1) (r := Q_law_right_6r_1) (b' := U_law_right_6B_2_2) rfl rfl rfl (List.map_inj_left.mp (List.map_inj_left.mp (R_law_rightK17_t c w3) w1 h1) w2 h2) (R_law_rightK18 hk d w1 h1 w2 h2 w3 h3)
theorem R_law_rightK16 {k : Nat} {c : W} (hk : k ≤ 900) (d : Dice (k + 3) c) (w1 : W) (h1 : w1 ∈ R_law_rightP0) (w2 : W) (h2 : w2 ∈ R_law_rightP1) (w3 : W) (h3 : w3 ∈ R_law_rightP2) : Rd (Dice (k + 3)) (U_law_right_6L_2 [some (.b c), some (.v w1), some (.v w2), some (.v w3), za0, za7, some (.v (.gl "pair_weights"))]) := Rd.item (v := U_law_right_6L_2) (b := U_law_right_6B_2_1) rfl rfl rfl R_law_rightK16_w (R_law_rightK16_g c w1 w2 w3) (R_law_rightK17 hk d w1 h1 w2 h2 w3 h3)
theorem R_law_rightK15 {k : Nat} {c : W} (hk : k ≤ 900) (d : Dice (k + 3) c) (w1 : W) (h1 : w1 ∈ R_law_rightP0) (w2 : W) (h2 : w2 ∈ R_law_rightP1) (w3 : W) (h3 : w3 ∈ R_law_rightP2) : Rd (Dice (k + 3)) (U_law_right_6B_1_4 [some (.b c), some (.v w1), some (.v w2), some (.v w3), za0, za6, some (.v (.gl "pair_weights"))]) := Rd.seq (R_law_rightK15_t c w1 w2 w3) (R_law_rightK16 hk d w1 h1 w2 h2 w3 h3)
theorem R_law_rightK14 {k : Nat} {c : W} (hk : k ≤ 900) (d : Dice (k + 3) c) (w1 : W) (h1 : w1 ∈ R_law_rightP0) (w2 : W) (h2 : w2 ∈ R_law_rightP1) (w3 : W) (h3 : w3 ∈ R_law_rightP2) : Rd (Dice (k + 3)) (U_law_right_6B_1_3 [some (.b c), some (.v w1), some (.v w2), some (.v w3), za0, za5, some (.v (.gl "pair_weights"))]) := Rd.bit (b := U_law_right_6B_1_3) (r := Q_law_right_6r_3) (b' := U_law_right_6B_1_4) rfl rfl rfl (List.map_inj_left.mp (R_law_rightK14_t c w1 w2) w3 h3) (R_law_rightK15 hk d w1 h1 w2 h2 w3 h3)
theorem R_law_rightK13 {k : Nat} {c : W} (hk : k ≤ 900) (d : Dice (k + 3) c) (w1 : W) (h1 : w1 ∈ R_law_rightP0) (w2 : W) (h2 : w2 ∈ R_law_rightP1) (w3 : W) (h3 : w3 ∈ R_law_rightP2) : Rd (Dice (k + 3)) (U_law_right_6B_1_2 [some (.b c), some (.v w1), some (.v w2), some (.v w3), za0, za4, some (.v (.gl "pair_weights"))]) := Rd.bit (b := U_law_right_6B_1_2) (r := Q_law_right_6r_2) (b' := U_law_right_6B_1_3) rfl rfl rfl (List.map_inj_left.mp (R_law_rightK13_t c w1 w3) w2 h2) (R_law_rightK14 hk d w1 h1 w2 h2 w3 h3)
theorem R_law_rightK12 {k : Nat} {c : W} (hk : k ≤ 900) (d : Dice (k + 3) c) (w1 : W) (h1 : w1 ∈ R_law_rightP0) (w2 : W) (h2 : w2 ∈ R_law_rightP1) (w3 : W) (h3 : w3 ∈ R_law_rightP2) : Rd (Dice (k + 3)) (U_law_right_6B_1_1 [some (.b c), some (.v w1), some (.v w2), some (.v w3), za0, za3, some (.v (.gl "pair_weights"))]) := Rd.bit (b := U_law_right_6B_1_1) (r := Q_law_right_6r_1) (b' := U_law_right_6B_1_2) rfl rfl rfl (List.map_inj_left.mp (List.map_inj_left.mp (R_law_rightK12_t c w3) w1 h1) w2 h2) (R_law_rightK13 hk d w1 h1 w2 h2 w3 h3)
theorem R_law_rightK11 {k : Nat} {c : W} (hk : k ≤ 900) (d : Dice (k + 3) c) (w1 : W) (h1 : w1 ∈ R_law_rightP0) (w2 : W) (h2 : w2 ∈ R_law_rightP1) (w3 : W) (h3 : w3 ∈ R_law_rightP2) : Rd (Dice (k + 3)) (U_law_right_6L_1 [some (.b c), some (.v w1), some (.v w2), some (.v w3), za0, za3, some (.v (.gl "link_things"))]) := Rd.item (v := U_law_right_6L_1) (b := U_law_right_6B_1_1) rfl rfl rfl R_law_rightK11_w (R_law_rightK11_g c w1 w2 w3) (R_law_rightK12 hk d w1 h1 w2 h2 w3 h3)
theorem R_law_rightK10 {k : Nat} {c : W} (hk : k ≤ 900) (d : Dice (k + 3) c) (w1 : W) (h1 : w1 ∈ R_law_rightP0) (w2 : W) (h2 : w2 ∈ R_law_rightP1) (w3 : W) (h3 : w3 ∈ R_law_rightP2) : Rd (Dice (k + 3)) (U_law_right_6B_0_4 [some (.b c), some (.v w1), some (.v w2), some (.v w3), za0, za2, some (.v (.gl "link_things"))]) := Rd.seq (R_law_rightK10_t c w1 w2 w3) (R_law_rightK11 hk d w1 h1 w2 h2 w3 h3)
theorem R_law_rightK9 {k : Nat} {c : W} (hk : k ≤ 900) (d : Dice (k + 3) c) (w1 : W) (h1 : w1 ∈ R_law_rightP0) (w2 : W) (h2 : w2 ∈ R_law_rightP1) (w3 : W) (h3 : w3 ∈ R_law_rightP2) : Rd (Dice (k + 3)) (U_law_right_6B_0_3 [some (.b c), some (.v w1), some (.v w2), some (.v w3), za0, za1, some (.v (.gl "link_things"))]) := Rd.bit (b := U_law_right_6B_0_3) (r := Q_law_right_6r_3) (b' := U_law_right_6B_0_4) rfl rfl rfl (List.map_inj_left.mp (R_law_rightK9_t c w1 w2) w3 h3) (R_law_rightK10 hk d w1 h1 w2 h2 w3 h3)
theorem R_law_rightK8 {k : Nat} {c : W} (hk : k ≤ 900) (d : Dice (k + 3) c) (w1 : W) (h1 : w1 ∈ R_law_rightP0) (w2 : W) (h2 : w2 ∈ R_law_rightP1) (w3 : W) (h3 : w3 ∈ R_law_rightP2) : Rd (Dice (k + 3)) (U_law_right_6B_0_2 [some (.b c), some (.v w1), some (.v w2), some (.v w3), za0, some (.o (.lst [.tup [.str "refused", .str "lots"]])), some (.v (.gl "link_things"))]) := Rd.bit (b := U_law_right_6B_0_2) (r := Q_law_right_6r_2) (b' := U_law_right_6B_0_3) rfl rfl rfl (List.map_inj_left.mp (R_law_rightK8_t c w1 w3) w2 h2) (R_law_rightK9 hk d w1 h1 w2 h2 w3 h3)
theorem R_law_rightK7 {k : Nat} {c : W} (hk : k ≤ 900) (d : Dice (k + 3) c) (w1 : W) (h1 : w1 ∈ R_law_rightP0) (w2 : W) (h2 : w2 ∈ R_law_rightP1) (w3 : W) (h3 : w3 ∈ R_law_rightP2) : Rd (Dice (k + 3)) (U_law_right_6B_0_1 [some (.b c), some (.v w1), some (.v w2), some (.v w3), za0, some (.o (.lst [])), some (.v (.gl "link_things"))]) := Rd.bit (b := U_law_right_6B_0_1) (r := Q_law_right_6r_1) (b' := U_law_right_6B_0_2) rfl rfl rfl (List.map_inj_left.mp (List.map_inj_left.mp (R_law_rightK7_t c w3) w1 h1) w2 h2) (R_law_rightK8 hk d w1 h1 w2 h2 w3 h3)
theorem R_law_rightK6 {k : Nat} {c : W} (hk : k ≤ 900) (d : Dice (k + 3) c) (w1 : W) (h1 : w1 ∈ R_law_rightP0) (w2 : W) (h2 : w2 ∈ R_law_rightP1) (w3 : W) (h3 : w3 ∈ R_law_rightP2) : Rd (Dice (k + 3)) (U_law_right_6L_0 [some (.b c), some (.v w1), some (.v w2), some (.v w3), za0, some (.o (.lst [])), none]) := Rd.item (v := U_law_right_6L_0) (b := U_law_right_6B_0_1) rfl rfl rfl R_law_rightK6_w (R_law_rightK6_g c w1 w2 w3) (R_law_rightK7 hk d w1 h1 w2 h2 w3 h3)
theorem R_law_rightK5 {k : Nat} {c : W} (hk : k ≤ 900) (d : Dice (k + 3) c) (w1 : W) (h1 : w1 ∈ R_law_rightP0) (w2 : W) (h2 : w2 ∈ R_law_rightP1) (w3 : W) (h3 : w3 ∈ R_law_rightP2) : Rd (Dice (k + 3)) (U_law_right_6 [some (.b c), some (.v w1), some (.v w2), some (.v w3), za0, some (.o (.lst [])), none]) := Rd.enter (q := Q_law_right_6) (v := U_law_right_6L_0) rfl rfl (R_law_rightK5_t c w1 w2 w3) (R_law_rightK6 hk d w1 h1 w2 h2 w3 h3)
theorem R_law_rightK4 {k : Nat} {c : W} (hk : k ≤ 900) (d : Dice (k + 3) c) (w1 : W) (h1 : w1 ∈ R_law_rightP0) (w2 : W) (h2 : w2 ∈ R_law_rightP1) (w3 : W) (h3 : w3 ∈ R_law_rightP2) : Rd (Dice (k + 3)) (U_law_right_5 [some (.b c), some (.v w1), some (.v w2), some (.v w3), za0, none, none]) := Rd.seq (R_law_rightK4_t c w1 w2 w3) (R_law_rightK5 hk d w1 h1 w2 h2 w3 h3)
theorem R_law_rightK3 {k : Nat} {c : W} (hk : k ≤ 900) (d : Dice (k + 3) c) (w1 : W) (h1 : w1 ∈ R_law_rightP0) (w2 : W) (h2 : w2 ∈ R_law_rightP1) (w3 : W) (h3 : w3 ∈ R_law_rightP2) : Rd (Dice (k + 3)) (U_law_right_4 [some (.b c), some (.v w1), some (.v w2), some (.v w3), none, none, none]) := Rd.seq (R_law_rightK3_t c w1 w2 w3) (R_law_rightK4 hk d w1 h1 w2 h2 w3 h3)
theorem R_law_rightK2 {k : Nat} {c : W} (hk : k ≤ 900) (d : Dice (k + 2) c) (w1 : W) (h1 : w1 ∈ R_law_rightP0) (w2 : W) (h2 : w2 ∈ R_law_rightP1) : Rd (Dice (k + 3)) (U_law_right_3 [some (.b c), some (.v w1), some (.v w2), none, none, none, none]) := by
  obtain ⟨w, c', e, h, d'⟩ := pick_ok (xs := R_law_rightP2) d (by omega) (by decide +kernel) (by decide +kernel)
  exact Rd.seq (pick_step (i := 3) (R_law_rightK2_t c w1 w2) e) (R_law_rightK3 hk d' w1 h1 w2 h2 w h)
theorem R_law_rightK1 {k : Nat} {c : W} (hk : k ≤ 900) (d : Dice (k + 1) c) (w1 : W) (h1 : w1 ∈ R_law_rightP0) : Rd (Dice (k + 3)) (U_law_right_2 [some (.b c), some (.v w1), none, none, none, none, none]) := by
  obtain ⟨w, c', e, h, d'⟩ := pick_ok (xs := R_law_rightP1) d (by omega) (by decide +kernel) (by decide +kernel)
  exact Rd.seq (pick_step (i := 2) (R_law_rightK1_t c w1) e) (R_law_rightK2 hk d' w1 h1 w h)
theorem R_law_rightK0 {k : Nat} {c : W} (hk : k ≤ 900) (d : Dice (k + 0) c) : Rd (Dice (k + 3)) (U_law_right_1 [some (.b c), none, none, none, none, none, none]) := by
  obtain ⟨w, c', e, h, d'⟩ := pick_ok (xs := R_law_rightP0) d (by omega) (by decide +kernel) (by decide +kernel)
  exact Rd.seq (pick_step (i := 1) (R_law_rightK0_t c) e) (R_law_rightK1 hk d' w h)


end Pv.K18
namespace Pv.K18
open PySem L2 Pv
def zt0 : Option Ev := some (.v (.ins "Lots" [("_weights", .dic [(.tup [.int 0], .tup [.int 1, .int 1]), (.tup [.int 1], .tup [.int 1, .int 1]), (.tup [.int 2], .tup [.int 1, .int 1]), (.tup [.int 3], .tup [.int 1, .int 1]), (.tup [.int 4], .tup [.int 1, .int 1])]), ("_size", .int 1), ("_unit", .tup [.int 1, .int 1]), ("_multiples", .lst [.dic [(.tup [], .int 5)], .dic [(.tup [.int 0], .int 1), (.tup [.int 1], .int 1), (.tup [.int 2], .int 1), (.tup [.int 3], .int 1), (.tup [.int 4], .int 1)]])]))
def zt1 : Option Ev := some (.v (.ins "Lots" [("_weights", .dic [(.tup [.int 0, .int 1], .tup [.int 1, .int 1]), (.tup [.int 0, .int 2], .tup [.int 1, .int 1]), (.tup [.int 1, .int 2], .tup [.int 1, .int 1])]), ("_size", .int 2), ("_unit", .tup [.int 1, .int 1]), ("_multiples", .lst [.dic [(.tup [], .int 3)], .dic [(.tup [.int 0], .int 2), (.tup [.int 1], .int 2), (.tup [.int 2], .int 2)], .dic [(.tup [.int 0, .int 1], .int 1), (.tup [.int 0, .int 2], .int 1), (.tup [.int 1, .int 2], .int 1)]])]))
theorem Llaw_0 (x0 x1 : Option Ev) : Qlaw_2 [x0, x1, none, none, none] = .nx [x0, x1, zt0, zt1, none] := by kernel_rfl
theorem Llaw_1 (x0 x1 : Option Ev) : Qlaw_3 [x0, x1, zt0, zt1, none] = .nx [x0, x1, zt0, zt1, some (.o (.lst [.tup [.str "refused", .str "operation"]]))] := by kernel_rfl
def zt2 : Option Ev := some (.o (.lst [.tup [.str "refused", .str "operation"], .tup [.str "refused", .str "operation"]]))
theorem Llaw_2 (x0 x1 : Option Ev) : Qlaw_4 [x0, x1, zt0, zt1, some (.o (.lst [.tup [.str "refused", .str "operation"]]))] = .nx [x0, x1, zt0, zt1, zt2] := by kernel_rfl
def zt3 : Option Ev := some (.o (.lst [.tup [.str "refused", .str "operation"], .tup [.str "refused", .str "operation"], .tup [.str "fine"]]))
theorem Llaw_3 (x0 x1 : Option Ev) : Qlaw_5 [x0, x1, zt0, zt1, zt2] = .nx [x0, x1, zt0, zt1, zt3] := by kernel_rfl
def zt4 : Option Ev := some (.o (.lst [.tup [.str "refused", .str "operation"], .tup [.str "refused", .str "operation"], .tup [.str "fine"], .tup [.str "refused", .str "operation"]]))
theorem Llaw_4 (x0 x1 : Option Ev) : Qlaw_6 [x0, x1, zt0, zt1, zt3] = .nx [x0, x1, zt0, zt1, zt4] := by kernel_rfl
def zt5 : Option Ev := some (.v (.lst [.tup [.str "refused", .str "operation"], .tup [.str "refused", .str "operation"], .tup [.str "fine"], .tup [.str "refused", .str "operation"]]))
theorem Llaw_5 (x0 x1 : Option Ev) : Qlaw_7 [x0, x1, zt0, zt1, zt4] = .ret (.bl true) [x0, x1, zt0, zt1, zt5] := by kernel_rfl
theorem Llaw_all (x0 x1 : Option Ev) : Rl (Ulaw_2 [x0, x1, none, none, none]) := Rl.seq (Llaw_0 x0 x1) (Rl.seq (Llaw_1 x0 x1) (Rl.seq (Llaw_2 x0 x1) (Rl.seq (Llaw_3 x0 x1) (Rl.seq (Llaw_4 x0 x1) (Rl.end (Llaw_5 x0 x1))))))

theorem ok__law_right {k : Nat} {c : W} (hk : k ≤ 900) (d : Dice k c) : ∃ c', m__law_right c [] = .ok (.bl true) c' ∧ Dice (k + 3) c' := Rd.run (n := 7) (f := F__law_right) (as := []) (by rw [FU__law_right]; exact R_law_rightK0 hk d)
theorem law_body (ns : List Int) (i : Nat) (hi : i ≤ 100) : ((sIf (fNotT (fTest (fCallBF 0 m__law_right (fCallN 2 m__law_dice (faCons (fVar 0) (faCons (fVar 1) faNil))) faNil))) (sRet (fC (.bl false))) sNil) : FS) [some (.v (.rol (ns.map .int))), some (.v (.int (i : Int))), none, none, none] = .nx [some (.v (.rol (ns.map .int))), some (.v (.int (i : Int))), none, none, none] := by
  obtain ⟨c, e, d⟩ := dice_ok ns i hi
  obtain ⟨c0, e0, d0⟩ := ok__law_right (k := 0) (by decide) d
  simp only [sSeq, sSet, sOwn, sRet, sRetO, sRetN, sIf, sNil, sDrop, sSetI, Rs.bind, Rs.thn, ofO, ofG, alW, putW, Ev.alone, Ev.put, fVar, fC, fBin, fIxN, ixW, fTest, fTestB, blW, fNotT, fAndT, fOrT, fNotV, fAndV, fOrV, fIf, faNil, faCons, fTup, fLst, szO, fNeg, negW, fChain, fCall, fCallN, fCallB, gN, gT, gNs, decide_true, decide_false, fLt, fLe, fGt, fGe, fSub, truth, List.length_cons, List.length_nil, List.map_cons, List.map_nil, List.replicate, List.cons_append, List.nil_append, List.getElem?_cons_zero, List.getElem?_cons_succ, List.set_cons_zero, List.set_cons_succ, decide_eq_true_eq, true_and, and_true, false_and, and_false, if_true, if_false, and_self, Nat.zero_add, Nat.reduceAdd, Nat.reduceSub, Bool.false_eq_true, Bool.not_true, Bool.not_false, Nat.reduceEqDiff, fCallBF, Rf.rs, Rb.rs0, Rb.rs, e, e0]
theorem law_src (ns : List Int) : ∃ m : Nat, m ≤ 100 ∧ ((fIt rng1W (faCons (fCall fMaxA (faCons (fC (.int 1)) (faCons (fCall fMinA (faCons (fC (.int 4)) (faCons (fCall fLen (faCons (fVar 0) faNil)) faNil))) faNil))) faNil)) : FI) [some (.v (.rol (ns.map .int))), none, none, none, none] = .ok (cnt 1 m 0) [some (.v (.rol (ns.map .int))), none, none, none, none] := by
  refine ⟨(max 1 (min 4 (ns.length : Int))).toNat, by omega, ?_⟩
  have e1 : (if (ns.map W.int).length < (4 : Int) then ((ns.map W.int).length : Int) else 4) = min 4 (ns.length : Int) := by
    rw [List.length_map]
    split <;> omega
  have e2 : (if min 4 (ns.length : Int) > 1 then min 4 (ns.length : Int) else 1) = max 1 (min 4 (ns.length : Int)) := by split <;> omega
  have e3 : -r62 ≤ max 1 (min 4 (ns.length : Int)) ∧ max 1 (min 4 (ns.length : Int)) < r62 := by
    have : r62 = 4611686018427387904 := by decide
    omega
  simp only [sSeq, sSet, sOwn, sRet, sRetO, sRetN, sIf, sNil, sDrop, sSetI, Rs.bind, Rs.thn, ofO, ofG, alW, putW, Ev.alone, Ev.put, fVar, fC, fBin, fIxN, ixW, fTest, fTestB, blW, fNotT, fAndT, fOrT, fNotV, fAndV, fOrV, fIf, faNil, faCons, fTup, fLst, szO, fNeg, negW, fChain, fCall, fCallN, fCallB, gN, gT, gNs, decide_true, decide_false, fLt, fLe, fGt, fGe, fSub, truth, List.length_cons, List.length_nil, List.map_cons, List.map_nil, List.replicate, List.cons_append, List.nil_append, List.getElem?_cons_zero, List.getElem?_cons_succ, List.set_cons_zero, List.set_cons_succ, decide_eq_true_eq, true_and, and_true, false_and, and_false, if_true, if_false, and_self, Nat.zero_add, Nat.reduceAdd, Nat.reduceSub, Bool.false_eq_true, Bool.not_true, Bool.not_false, Nat.reduceEqDiff, fIt, rng1W, fMaxA, fMinA, fLen, e1, e2, if_pos e3]
theorem law_run (ns : List Int) (hn : ns.length ≤ 63) : m_law [.rol (ns.map .int)] = .ok (.bl true) := by
  obtain ⟨m, hm, e1⟩ := law_src ns
  obtain ⟨x', e2⟩ := loop_cnt (law_body ns) m 0 none (by omega)
  obtain ⟨e, h⟩ := Llaw_all (some (.v (.rol (ns.map .int)))) x'
  refine Rl.run (n := 5) (f := F_law) ⟨e, ?_⟩
  rw [FU_law]
  show sSeq Qlaw_1 Ulaw_2 [some (.v (.rol (ns.map .int))), none, none, none, none] = _
  unfold sSeq
  have e3 : Qlaw_1 [some (.v (.rol (ns.map .int))), none, none, none, none] = .nx [some (.v (.rol (ns.map .int))), x', none, none, none] := by
    unfold Qlaw_1 sFor
    rw [e1]
    exact e2
  rw [e3]
  exact h
end Pv.K18
namespace Pv.K18
open PySem PySem.Spec PyProof.Rows L2 Pv
open Pg (oxB oxB_ok tl_VE tl_IE tl_KE tl_RE tl_OE tl_AE)
/-- the text by places -/
def top (i : Nat) : Stmt := PySem.Challenge.pw_pinnedgaps_k18_errors_of_local_walks.main.body.getD i (.Pass ⟨0, 0, 0, 0⟩)
/-- what the names of the built-ins and of the constants hold -/
structure Mg (G : Wo) : Prop where
  n_abs : G.mg ("abs" : Str) = none
  n_all : G.mg ("all" : Str) = none
  n_bool : G.mg ("bool" : Str) = none
  n_comb : G.mg ("comb" : Str) = some (.builtin "math.comb")
  n_dict : G.mg ("dict" : Str) = none
  n_enumerate : G.mg ("enumerate" : Str) = none
  n_gcd : G.mg ("gcd" : Str) = some (.builtin "math.gcd")
  n_int : G.mg ("int" : Str) = none
  n_isinstance : G.mg ("isinstance" : Str) = none
  n_lcm : G.mg ("lcm" : Str) = some (.builtin "math.lcm")
  n_len : G.mg ("len" : Str) = none
  n_list : G.mg ("list" : Str) = none
  n_max : G.mg ("max" : Str) = none
  n_min : G.mg ("min" : Str) = none
  n_range : G.mg ("range" : Str) = none
  n_set : G.mg ("set" : Str) = none
  n_sorted : G.mg ("sorted" : Str) = none
  n_sum : G.mg ("sum" : Str) = none
  n_tuple : G.mg ("tuple" : Str) = none
  n_zip : G.mg ("zip" : Str) = none
  k_InvalidLots : Mk0Ok G "InvalidLots"
  k_InvalidNumber : MkOk G 1 "InvalidNumber" "given"
  k_InvalidOperation : Mk0Ok G "InvalidOperation"
  k_InvalidPin : Mk0Ok G "InvalidPin"
  k_TooMany : MkOk G 1 "TooMany" "limit"
  sub : SubOk G SUB
  e_InvalidLots : ∃ D : Addr, G.mg "InvalidLots" = some (.ref D)
  e_InvalidOperation : ∃ D : Addr, G.mg "InvalidOperation" = some (.ref D)
  e_InvalidPin : ∃ D : Addr, G.mg "InvalidPin" = some (.ref D)
  q_Lots__multiples : FldOk G "Lots" "_multiples"
  q_Lots__size : FldOk G "Lots" "_size"
  q_Lots__unit : FldOk G "Lots" "_unit"
  q_Lots__weights : FldOk G "Lots" "_weights"
  i_Lots : IsiOk G "Lots"
  g_Lots : ∃ a : Addr, G.mg "Lots" = some (.ref a)
  cMAX_LOTS : ∃ t, G.mg ("MAX_LOTS" : Str) = some (.int 40 t)
  cMAX_SIZE : ∃ t, G.mg ("MAX_SIZE" : Str) = some (.int 5 t)
  cMAX_THING : ∃ t, G.mg ("MAX_THING" : Str) = some (.int 7 t)
  c_TOO_LONG : ∃ t, G.mg ("_TOO_LONG" : Str) = some (.int 1000000000000000000000000000000000000000000000000000000000000 t)
abbrev s__law_roll : Stmt := top 63
theorem sc__law_roll : FnScope ["dice", "most", "found", "one", "two"] ["dice", "most"] (defScope s__law_roll) := ⟨rfl, rfl, rfl, by decide +kernel, rfl, by decide +kernel, by decide +kernel⟩
abbrev s__law_pick : Stmt := top 64
theorem sc__law_pick : FnScope ["dice", "items"] ["dice", "items"] (defScope s__law_pick) := ⟨rfl, rfl, rfl, by decide +kernel, rfl, by decide +kernel, by decide +kernel⟩
abbrev s__is_whole : Stmt := top 23
theorem sc__is_whole : FnScope ["value"] ["value"] (defScope s__is_whole) := ⟨rfl, rfl, rfl, by decide +kernel, rfl, by decide +kernel, by decide +kernel⟩
abbrev s_is_integer : Stmt := top 11
theorem sc_is_integer : FnScope ["value"] ["value"] (defScope s_is_integer) := ⟨rfl, rfl, rfl, by decide +kernel, rfl, by decide +kernel, by decide +kernel⟩
abbrev s_is_within : Stmt := top 14
theorem sc_is_within : FnScope ["value", "low", "high"] ["value", "low", "high"] (defScope s_is_within) := ⟨rfl, rfl, rfl, by decide +kernel, rfl, by decide +kernel, by decide +kernel⟩
abbrev s_is_thing : Stmt := top 35
theorem sc_is_thing : FnScope ["value"] ["value"] (defScope s_is_thing) := ⟨rfl, rfl, rfl, by decide +kernel, rfl, by decide +kernel, by decide +kernel⟩
abbrev s_are_things : Stmt := top 36
theorem sc_are_things : FnScope ["value", "thing", "low", "high"] ["value"] (defScope s_are_things) := ⟨rfl, rfl, rfl, by decide +kernel, rfl, by decide +kernel, by decide +kernel⟩
abbrev s_is_lot : Stmt := top 37
theorem sc_is_lot : FnScope ["value"] ["value"] (defScope s_is_lot) := ⟨rfl, rfl, rfl, by decide +kernel, rfl, by decide +kernel, by decide +kernel⟩
abbrev s__are_different_lots : Stmt := top 42
theorem sc__are_different_lots : FnScope ["value", "lot"] ["value"] (defScope s__are_different_lots) := ⟨rfl, rfl, rfl, by decide +kernel, rfl, by decide +kernel, by decide +kernel⟩
abbrev s_is_fraction : Stmt := top 12
theorem sc_is_fraction : FnScope ["value", "top", "bottom"] ["value"] (defScope s_is_fraction) := ⟨rfl, rfl, rfl, by decide +kernel, rfl, by decide +kernel, by decide +kernel⟩
abbrev s_is_number : Stmt := top 13
theorem sc_is_number : FnScope ["value"] ["value"] (defScope s_is_number) := ⟨rfl, rfl, rfl, by decide +kernel, rfl, by decide +kernel, by decide +kernel⟩
abbrev s_pair_of : Stmt := top 15
theorem sc_pair_of : FnScope ["number"] ["number"] (defScope s_pair_of) := ⟨rfl, rfl, rfl, by decide +kernel, rfl, by decide +kernel, by decide +kernel⟩
abbrev s_is_above_0 : Stmt := top 16
theorem sc_is_above_0 : FnScope ["value"] ["value"] (defScope s_is_above_0) := ⟨rfl, rfl, rfl, by decide +kernel, rfl, by decide +kernel, by decide +kernel⟩
abbrev s_is_lots_data : Stmt := top 31
theorem sc_is_lots_data : FnScope ["value", "weight"] ["value"] (defScope s_is_lots_data) := ⟨rfl, rfl, rfl, by decide +kernel, rfl, by decide +kernel, by decide +kernel⟩
abbrev s_whole_row : Stmt := top 20
theorem sc_whole_row : FnScope ["numbers", "pairs", "scale", "pair", "number", "top", "bottom"] ["numbers"] (defScope s_whole_row) := ⟨rfl, rfl, rfl, by decide +kernel, rfl, by decide +kernel, by decide +kernel⟩
abbrev s_common_divisor : Stmt := top 19
theorem sc_common_divisor : FnScope ["integers", "divisor", "entry"] ["integers"] (defScope s_common_divisor) := ⟨rfl, rfl, rfl, by decide +kernel, rfl, by decide +kernel, by decide +kernel⟩
abbrev s__reduced : Stmt := top 25
theorem sc__reduced : FnScope ["top", "bottom", "common"] ["top", "bottom"] (defScope s__reduced) := ⟨rfl, rfl, rfl, by decide +kernel, rfl, by decide +kernel, by decide +kernel⟩
abbrev s_fraction : Stmt := top 21
theorem sc_fraction : FnScope ["top", "bottom"] ["top", "bottom"] (defScope s_fraction) := ⟨rfl, rfl, rfl, by decide +kernel, rfl, by decide +kernel, by decide +kernel⟩
abbrev s_parts_of : Stmt := top 41
theorem sc_parts_of : FnScope ["things", "parts", "thing", "part"] ["things"] (defScope s_parts_of) := ⟨rfl, rfl, rfl, by decide +kernel, rfl, by decide +kernel, by decide +kernel⟩
abbrev s__pin_sums : Stmt := top 43
theorem sc__pin_sums : FnScope ["lots", "multiples", "sums", "lot", "many", "part", "pins", "size", "pin"] ["lots", "multiples"] (defScope s__pin_sums) := ⟨rfl, rfl, rfl, by decide +kernel, rfl, by decide +kernel, by decide +kernel⟩
abbrev s_Lots___init__ : Stmt := inCls (top 30) 0
theorem sc_Lots___init__ : FnScope ["self", "weights", "lots", "whole", "scale", "common", "lot", "many"] ["self", "weights"] (defScope s_Lots___init__) := ⟨rfl, rfl, rfl, by decide +kernel, rfl, by decide +kernel, by decide +kernel⟩
abbrev s_check_lots : Stmt := top 33
theorem sc_check_lots : FnScope ["lots"] ["lots"] (defScope s_check_lots) := ⟨rfl, rfl, rfl, by decide +kernel, rfl, by decide +kernel, by decide +kernel⟩
abbrev s_Lots_size : Stmt := inCls (top 30) 5
theorem sc_Lots_size : FnScope ["self"] ["self"] (defScope s_Lots_size) := ⟨rfl, rfl, rfl, by decide +kernel, rfl, by decide +kernel, by decide +kernel⟩
abbrev s_Lots_multiple_of : Stmt := inCls (top 30) 9
theorem sc_Lots_multiple_of : FnScope ["self", "things"] ["self", "things"] (defScope s_Lots_multiple_of) := ⟨rfl, rfl, rfl, by decide +kernel, rfl, by decide +kernel, by decide +kernel⟩
abbrev s_is_pin : Stmt := top 32
theorem sc_is_pin : FnScope ["lots", "value"] ["lots", "value"] (defScope s_is_pin) := ⟨rfl, rfl, rfl, by decide +kernel, rfl, by decide +kernel, by decide +kernel⟩
abbrev s_check_pin : Stmt := top 34
theorem sc_check_pin : FnScope ["lots", "pin"] ["lots", "pin"] (defScope s_check_pin) := ⟨rfl, rfl, rfl, by decide +kernel, rfl, by decide +kernel, by decide +kernel⟩
abbrev s_check_near : Stmt := top 54
theorem sc_check_near : FnScope ["lots", "pin"] ["lots", "pin"] (defScope s_check_near) := ⟨rfl, rfl, rfl, by decide +kernel, rfl, by decide +kernel, by decide +kernel⟩
abbrev s_check_room : Stmt := top 55
theorem sc_check_room : FnScope ["lots", "pin"] ["lots", "pin"] (defScope s_check_room) := ⟨rfl, rfl, rfl, by decide +kernel, rfl, by decide +kernel, by decide +kernel⟩
abbrev s_check_place : Stmt := top 56
theorem sc_check_place : FnScope ["lots", "pin"] ["lots", "pin"] (defScope s_check_place) := ⟨rfl, rfl, rfl, by decide +kernel, rfl, by decide +kernel, by decide +kernel⟩
abbrev s_Lots_things : Stmt := inCls (top 30) 6
theorem sc_Lots_things : FnScope ["self", "pin"] ["self"] (defScope s_Lots_things) := ⟨rfl, rfl, rfl, by decide +kernel, rfl, by decide +kernel, by decide +kernel⟩
abbrev s_together : Stmt := top 40
theorem sc_together : FnScope ["pin", "things"] ["pin", "things"] (defScope s_together) := ⟨rfl, rfl, rfl, by decide +kernel, rfl, by decide +kernel, by decide +kernel⟩
abbrev s_things_left : Stmt := top 57
theorem sc_things_left : FnScope ["lots", "pin", "others", "thing"] ["lots", "pin"] (defScope s_things_left) := ⟨rfl, rfl, rfl, by decide +kernel, rfl, by decide +kernel, by decide +kernel⟩
abbrev s_link_things : Stmt := top 45
theorem sc_link_things : FnScope ["lots", "pin"] ["lots", "pin"] (defScope s_link_things) := ⟨rfl, rfl, rfl, by decide +kernel, rfl, by decide +kernel, by decide +kernel⟩
abbrev s_Lots_unit : Stmt := inCls (top 30) 8
theorem sc_Lots_unit : FnScope ["self"] ["self"] (defScope s_Lots_unit) := ⟨rfl, rfl, rfl, by decide +kernel, rfl, by decide +kernel, by decide +kernel⟩
abbrev s_check_number : Stmt := top 17
theorem sc_check_number : FnScope ["value"] ["value"] (defScope s_check_number) := ⟨rfl, rfl, rfl, by decide +kernel, rfl, by decide +kernel, by decide +kernel⟩
abbrev s__checked : Stmt := top 24
theorem sc__checked : FnScope ["number"] ["number"] (defScope s__checked) := ⟨rfl, rfl, rfl, by decide +kernel, rfl, by decide +kernel, by decide +kernel⟩
abbrev s_multiplied : Stmt := top 22
theorem sc_multiplied : FnScope ["one", "other", "top", "bottom", "other_top", "other_bottom"] ["one", "other"] (defScope s_multiplied) := ⟨rfl, rfl, rfl, by decide +kernel, rfl, by decide +kernel, by decide +kernel⟩
abbrev s_pair_weights : Stmt := top 46
theorem sc_pair_weights : FnScope ["lots", "pin", "things", "pairs", "weights", "low", "high", "pair", "many"] ["lots", "pin"] (defScope s_pair_weights) := ⟨rfl, rfl, rfl, by decide +kernel, rfl, by decide +kernel, by decide +kernel⟩
abbrev s_pair_rows : Stmt := top 58
theorem sc_pair_rows : FnScope ["lots", "pin", "things", "thing", "other"] ["lots", "pin"] (defScope s_pair_rows) := ⟨rfl, rfl, rfl, by decide +kernel, rfl, by decide +kernel, by decide +kernel⟩
abbrev s_masses : Stmt := top 47
theorem sc_masses : FnScope ["lots", "pin", "rows", "thing", "row"] ["lots", "pin"] (defScope s_masses) := ⟨rfl, rfl, rfl, by decide +kernel, rfl, by decide +kernel, by decide +kernel⟩
abbrev s_local_walk : Stmt := top 48
theorem sc_local_walk : FnScope ["lots", "pin", "row", "many"] ["lots", "pin"] (defScope s_local_walk) := ⟨rfl, rfl, rfl, by decide +kernel, rfl, by decide +kernel, by decide +kernel⟩
abbrev s_walk_shares : Stmt := top 49
theorem sc_walk_shares : FnScope ["lots", "pin", "sums", "row", "mass"] ["lots", "pin"] (defScope s_walk_shares) := ⟨rfl, rfl, rfl, by decide +kernel, rfl, by decide +kernel, by decide +kernel⟩
abbrev s__reached : Stmt := top 60
theorem sc__reached : FnScope ["rows", "start", "reached", "waiting", "row", "fresh", "found", "place", "entry"] ["rows", "start"] (defScope s__reached) := ⟨rfl, rfl, rfl, by decide +kernel, rfl, by decide +kernel, by decide +kernel⟩
abbrev s_pieces_of_rows : Stmt := top 59
theorem sc_pieces_of_rows : FnScope ["rows", "found", "left", "piece", "place"] ["rows"] (defScope s_pieces_of_rows) := ⟨rfl, rfl, rfl, by decide +kernel, rfl, by decide +kernel, by decide +kernel⟩
abbrev s_pieces : Stmt := top 51
theorem sc_pieces : FnScope ["lots", "pin", "things", "found", "piece", "place"] ["lots", "pin"] (defScope s_pieces) := ⟨rfl, rfl, rfl, by decide +kernel, rfl, by decide +kernel, by decide +kernel⟩
abbrev s_hangs_together : Stmt := top 50
theorem sc_hangs_together : FnScope ["lots", "pin"] ["lots", "pin"] (defScope s_hangs_together) := ⟨rfl, rfl, rfl, by decide +kernel, rfl, by decide +kernel, by decide +kernel⟩
abbrev s_parting : Stmt := top 52
theorem sc_parting : FnScope ["lots", "pin", "found"] ["lots", "pin"] (defScope s_parting) := ⟨rfl, rfl, rfl, by decide +kernel, rfl, by decide +kernel, by decide +kernel⟩
abbrev s_is_parting : Stmt := top 53
theorem sc_is_parting : FnScope ["lots", "pin", "value", "things", "others", "thing", "other"] ["lots", "pin", "value"] (defScope s_is_parting) := ⟨rfl, rfl, rfl, by decide +kernel, rfl, by decide +kernel, by decide +kernel⟩
abbrev s__law_met : Stmt := top 65
theorem sc__law_met : FnScope ["call"] ["call"] (defScope s__law_met) := ⟨rfl, rfl, rfl, by decide +kernel, rfl, by decide +kernel, by decide +kernel⟩
abbrev s__law_right : Stmt := top 66
theorem sc__law_right : FnScope ["dice", "none", "bad", "great", "three", "told", "call"] ["dice"] (defScope s__law_right) := ⟨rfl, rfl, rfl, by decide +kernel, rfl, by decide +kernel, by decide +kernel⟩
abbrev s__law_dice : Stmt := top 62
theorem sc__law_dice : FnScope ["script", "spot", "cell", "left"] ["script", "spot"] (defScope s__law_dice) := ⟨rfl, rfl, rfl, by decide +kernel, rfl, by decide +kernel, by decide +kernel⟩
abbrev s_check_within : Stmt := top 18
theorem sc_check_within : FnScope ["value", "low", "high"] ["value", "low", "high"] (defScope s_check_within) := ⟨rfl, rfl, rfl, by decide +kernel, rfl, by decide +kernel, by decide +kernel⟩
abbrev s_Lots_all_of : Stmt := inCls (top 30) 1
theorem sc_Lots_all_of : FnScope ["cls", "things", "size", "lot"] ["cls", "things", "size"] (defScope s_Lots_all_of) := ⟨rfl, rfl, rfl, by decide +kernel, rfl, by decide +kernel, by decide +kernel⟩
end Pv.K18
namespace Pv.K18
open PySem PySem.Spec PyProof.Rows L2 Pv
open Pg (oxB oxB_ok tl_VE tl_IE tl_KE tl_RE tl_OE tl_AE)
theorem R__law_roll {G : Wo} (M : Mg G) (A : DefAt G s__law_roll "_law_roll" ["dice", "most"]) : DefB G 3 "_law_roll" 1 (fnB 5 F__law_roll) := by
  obtain ⟨fa, fd, Fd, hm, b⟩ := A.ex
  have z := def_okB (lv := 2) Fd sc__law_roll (f := F__law_roll) ((rb_cons (rs_if (rt_cmp o_gt (re_ixN (i := 0) rfl (by first | exact Or.inl rfl | exact Or.inr (Or.inl rfl) | exact Or.inr (Or.inr rfl)) re_int) re_int) (rb_cons (rs_set (i := 2) ⟨by rfl, by first | exact Or.inl rfl | exact Or.inr rfl, by first | exact Or.inl rfl | exact Or.inr (Or.inl rfl) | exact Or.inr (Or.inr rfl)⟩ (re_bin o_mod (re_ct c_int (by rfl) M.n_int (by decide +kernel) (ra_cons (re_ixN (i := 0) rfl (by first | exact Or.inl rfl | exact Or.inr (Or.inl rfl) | exact Or.inr (Or.inr rfl)) re_int) ra_nil)) (re_var (i := 1) rfl (by first | exact Or.inl rfl | exact Or.inr (Or.inl rfl) | exact Or.inr (Or.inr rfl)))))
  (rb_cons (rs_seti (i := 0) rfl (by first | exact Or.inl rfl | exact Or.inr (Or.inl rfl) | exact Or.inr (Or.inr rfl)) (re_bin o_div (re_ixN (i := 0) rfl (by first | exact Or.inl rfl | exact Or.inr (Or.inl rfl) | exact Or.inr (Or.inr rfl)) re_int) (re_var (i := 1) rfl (by first | exact Or.inl rfl | exact Or.inr (Or.inl rfl) | exact Or.inr (Or.inr rfl)))) re_int)
  (rb_one (rs_ret (re_var (i := 2) rfl (by first | exact Or.inl rfl | exact Or.inr (Or.inl rfl) | exact Or.inr (Or.inr rfl))))))) rb_nil)
  (rb_cons (rs_seti (i := 0) rfl (by first | exact Or.inl rfl | exact Or.inr (Or.inl rfl) | exact Or.inr (Or.inr rfl)) (re_bin o_add (re_ixN (i := 0) rfl (by first | exact Or.inl rfl | exact Or.inr (Or.inl rfl) | exact Or.inr (Or.inr rfl)) re_int) re_int) re_int)
  (rb_cons (rs_set (i := 3) ⟨by rfl, by first | exact Or.inl rfl | exact Or.inr rfl, by first | exact Or.inl rfl | exact Or.inr (Or.inl rfl) | exact Or.inr (Or.inr rfl)⟩ (re_bin o_mod (re_ct c_int (by rfl) M.n_int (by decide +kernel) (ra_cons (re_bin o_add (re_ixN (i := 0) rfl (by first | exact Or.inl rfl | exact Or.inr (Or.inl rfl) | exact Or.inr (Or.inr rfl)) re_int) (re_bin o_mul re_int (re_ixN (i := 0) rfl (by first | exact Or.inl rfl | exact Or.inr (Or.inl rfl) | exact Or.inr (Or.inr rfl)) re_int))) ra_nil)) re_int))
  (rb_cons (rs_set (i := 4) ⟨by rfl, by first | exact Or.inl rfl | exact Or.inr rfl, by first | exact Or.inl rfl | exact Or.inr (Or.inl rfl) | exact Or.inr (Or.inr rfl)⟩ (re_bin o_add (re_bin o_mul (re_bin o_mod (re_ct c_int (by rfl) M.n_int (by decide +kernel) (ra_cons (re_bin o_add (re_bin o_mul (re_var (i := 3) rfl (by first | exact Or.inl rfl | exact Or.inr (Or.inl rfl) | exact Or.inr (Or.inr rfl))) (re_var (i := 3) rfl (by first | exact Or.inl rfl | exact Or.inr (Or.inl rfl) | exact Or.inr (Or.inr rfl)))) (re_bin o_mul re_int (re_ixN (i := 0) rfl (by first | exact Or.inl rfl | exact Or.inr (Or.inl rfl) | exact Or.inr (Or.inr rfl)) re_int))) ra_nil)) re_int) re_int) (re_var (i := 3) rfl (by first | exact Or.inl rfl | exact Or.inr (Or.inl rfl) | exact Or.inr (Or.inr rfl)))))
  (rb_one (rs_ret (re_bin o_mod (re_ct c_int (by rfl) M.n_int (by decide +kernel) (ra_cons (re_bin o_div (re_var (i := 4) rfl (by first | exact Or.inl rfl | exact Or.inr (Or.inl rfl) | exact Or.inr (Or.inr rfl))) re_int) ra_nil)) (re_var (i := 1) rfl (by first | exact Or.inl rfl | exact Or.inr (Or.inl rfl) | exact Or.inr (Or.inr rfl))))))))))) hm b rfl (by decide)
  exact z
theorem R_is_lot {G : Wo} (M : Mg G) (A : DefAt G s_is_lot "is_lot" ["value"]) (D_are_things : DefOk G 7 "are_things" 1 m_are_things) : DefOk G 8 "is_lot" 1 (fnOf 1 F_is_lot) := by
  obtain ⟨fa, fd, Fd, hm, b⟩ := A.ex
  have z := def_ok (lv := 7) Fd sc_is_lot (f := F_is_lot) ((rb_one (rs_ret (re_and (re_call D_are_things (Nat.le_of_ble_eq_true rfl) (by rfl) (ra_cons (re_var (i := 0) rfl (by first | exact Or.inl rfl | exact Or.inr (Or.inl rfl) | exact Or.inr (Or.inr rfl))) ra_nil)) (re_one (re_chain o_le o_le re_int (re_cb c_len (by rfl) M.n_len (by decide +kernel) (ra_cons (re_var (i := 0) rfl (by first | exact Or.inl rfl | exact Or.inr (Or.inl rfl) | exact Or.inr (Or.inr rfl))) ra_nil)) (re_gintE (by rfl) M.cMAX_SIZE))))))) hm b
  exact z
theorem R_whole_row {G : Wo} (M : Mg G) (A : DefAt G s_whole_row "whole_row" ["numbers"]) (D_pair_of : DefOk G 3 "pair_of" 1 m_pair_of) : DefOk G 4 "whole_row" 1 (fnOf 7 F_whole_row) := by
  obtain ⟨fa, fd, Fd, hm, b⟩ := A.ex
  have z := def_ok (lv := 3) Fd sc_whole_row (f := F_whole_row) ((rb_cons (rs_owncomp (i := 1) rfl rfl (fun env h => by cases env; cases h; rfl) (own := [("number", 4)]) (by dsimp only; decide +kernel) (ri_seq (re_var (i := 0) rfl (by first | exact Or.inl rfl | exact Or.inr (Or.inl rfl) | exact Or.inr (Or.inr rfl)))) (rg_n (i := 4) ⟨by rfl, by first | exact Or.inl rfl | exact Or.inr rfl, by first | exact Or.inl rfl | exact Or.inr (Or.inl rfl) | exact Or.inr (Or.inr rfl)⟩) rts_nil (re_call D_pair_of (Nat.le_of_ble_eq_true rfl) (by rfl) (ra_cons (re_var (i := 4) rfl (by first | exact Or.inl rfl | exact Or.inr (Or.inl rfl) | exact Or.inr (Or.inr rfl))) ra_nil)))
  (rb_cons (rs_set (i := 2) ⟨by rfl, by first | exact Or.inl rfl | exact Or.inr rfl, by first | exact Or.inl rfl | exact Or.inr (Or.inl rfl) | exact Or.inr (Or.inr rfl)⟩ re_int)
  (rb_cons (rs_for (ri_seq (re_var (i := 1) rfl (by first | exact Or.inl rfl | exact Or.inr (Or.inl rfl) | exact Or.inr (Or.inr rfl)))) (rg_n (i := 3) ⟨by rfl, by first | exact Or.inl rfl | exact Or.inr rfl, by first | exact Or.inl rfl | exact Or.inr (Or.inl rfl) | exact Or.inr (Or.inr rfl)⟩) (rb_one (rs_set (i := 2) ⟨by rfl, by first | exact Or.inl rfl | exact Or.inr rfl, by first | exact Or.inl rfl | exact Or.inr (Or.inl rfl) | exact Or.inr (Or.inr rfl)⟩ (re_cf c_lcm (by rfl) M.n_lcm (ra_cons (re_var (i := 2) rfl (by first | exact Or.inl rfl | exact Or.inr (Or.inl rfl) | exact Or.inr (Or.inr rfl))) (ra_cons (re_ix (re_var (i := 3) rfl (by first | exact Or.inl rfl | exact Or.inr (Or.inl rfl) | exact Or.inr (Or.inr rfl))) re_int) ra_nil))))))
  (rb_one (rs_ret (re_tup (ra_cons (re_comp (own := [("top", 5), ("bottom", 6)]) (by dsimp only; decide +kernel) (ri_seq (re_var (i := 1) rfl (by first | exact Or.inl rfl | exact Or.inr (Or.inl rfl) | exact Or.inr (Or.inr rfl)))) (rg_t (.cons ⟨by rfl, by first | exact Or.inl rfl | exact Or.inr rfl, by first | exact Or.inl rfl | exact Or.inr (Or.inl rfl) | exact Or.inr (Or.inr rfl)⟩ (.cons ⟨by rfl, by first | exact Or.inl rfl | exact Or.inr rfl, by first | exact Or.inl rfl | exact Or.inr (Or.inl rfl) | exact Or.inr (Or.inr rfl)⟩ .nil))) rts_nil (re_bin o_mul (re_var (i := 5) rfl (by first | exact Or.inl rfl | exact Or.inr (Or.inl rfl) | exact Or.inr (Or.inr rfl))) (re_bin o_div (re_var (i := 2) rfl (by first | exact Or.inl rfl | exact Or.inr (Or.inl rfl) | exact Or.inr (Or.inr rfl))) (re_var (i := 6) rfl (by first | exact Or.inl rfl | exact Or.inr (Or.inl rfl) | exact Or.inr (Or.inr rfl)))))) (ra_cons (re_var (i := 2) rfl (by first | exact Or.inl rfl | exact Or.inr (Or.inl rfl) | exact Or.inr (Or.inr rfl))) ra_nil))))))))) hm b
  exact z
theorem R_check_lots {G : Wo} (M : Mg G) (A : DefAt G s_check_lots "check_lots" ["lots"]) : DefOk G 3 "check_lots" 1 (fnOf 1 F_check_lots) := by
  obtain ⟨fa, fd, Fd, hm, b⟩ := A.ex
  have z := def_ok (lv := 2) Fd sc_check_lots (f := F_check_lots) ((rb_one (rs_if (rt_not (rt_val (re_cb (c_isiO M.i_Lots) (by rfl) M.n_isinstance (by decide +kernel) (ra_cons (re_var (i := 0) rfl (by first | exact Or.inl rfl | exact Or.inr (Or.inl rfl) | exact Or.inr (Or.inr rfl))) (ra_cons (re_gcls (by rfl) M.g_Lots) ra_nil))))) (rb_one (rs_raise (rm_mk0 M.k_InvalidLots (by rfl)))) rb_nil))) hm b
  exact z
theorem R_check_place {G : Wo} (M : Mg G) (A : DefAt G s_check_place "check_place" ["lots", "pin"]) (D_check_near : DefOk G 10 "check_near" 2 m_check_near) (D_check_room : DefOk G 5 "check_room" 2 m_check_room) : DefOk G 11 "check_place" 2 (fnOf 2 F_check_place) := by
  obtain ⟨fa, fd, Fd, hm, b⟩ := A.ex
  have z := def_ok (lv := 10) Fd sc_check_place (f := F_check_place) ((rb_cons (rs_expr (re_call D_check_near (Nat.le_of_ble_eq_true rfl) (by rfl) (ra_cons (re_var (i := 0) rfl (by first | exact Or.inl rfl | exact Or.inr (Or.inl rfl) | exact Or.inr (Or.inr rfl))) (ra_cons (re_var (i := 1) rfl (by first | exact Or.inl rfl | exact Or.inr (Or.inl rfl) | exact Or.inr (Or.inr rfl))) ra_nil))))
  (rb_one (rs_expr (re_call D_check_room (Nat.le_of_ble_eq_true rfl) (by rfl) (ra_cons (re_var (i := 0) rfl (by first | exact Or.inl rfl | exact Or.inr (Or.inl rfl) | exact Or.inr (Or.inr rfl))) (ra_cons (re_var (i := 1) rfl (by first | exact Or.inl rfl | exact Or.inr (Or.inl rfl) | exact Or.inr (Or.inr rfl))) ra_nil))))))) hm b
  exact z
theorem R__checked {G : Wo} (M : Mg G) (A : DefAt G s__checked "_checked" ["number"]) (D_check_number : DefOk G 6 "check_number" 1 m_check_number) (D_pair_of : DefOk G 3 "pair_of" 1 m_pair_of) : DefOk G 7 "_checked" 1 (fnOf 1 F__checked) := by
  obtain ⟨fa, fd, Fd, hm, b⟩ := A.ex
  have z := def_ok (lv := 6) Fd sc__checked (f := F__checked) ((rb_cons (rs_expr (re_call D_check_number (Nat.le_of_ble_eq_true rfl) (by rfl) (ra_cons (re_var (i := 0) rfl (by first | exact Or.inl rfl | exact Or.inr (Or.inl rfl) | exact Or.inr (Or.inr rfl))) ra_nil)))
  (rb_one (rs_ret (re_call D_pair_of (Nat.le_of_ble_eq_true rfl) (by rfl) (ra_cons (re_var (i := 0) rfl (by first | exact Or.inl rfl | exact Or.inr (Or.inl rfl) | exact Or.inr (Or.inr rfl))) ra_nil)))))) hm b
  exact z
theorem R__reached {G : Wo} (M : Mg G) (A : DefAt G s__reached "_reached" ["rows", "start"]) : DefOk G 3 "_reached" 2 (fnOf 9 F__reached) := by
  obtain ⟨fa, fd, Fd, hm, b⟩ := A.ex
  have z := def_ok (lv := 2) Fd sc__reached (f := F__reached) ((rb_cons (rs_own (i := 2) ⟨by rfl, by first | exact Or.inl rfl | exact Or.inr rfl, by first | exact Or.inl rfl | exact Or.inr (Or.inl rfl) | exact Or.inr (Or.inr rfl)⟩ (rf_disp (rp_cons (re_var (i := 1) rfl (by first | exact Or.inl rfl | exact Or.inr (Or.inl rfl) | exact Or.inr (Or.inr rfl))) re_bl rp_nil)))
  (rb_cons (rs_own (i := 3) ⟨by rfl, by first | exact Or.inl rfl | exact Or.inr rfl, by first | exact Or.inl rfl | exact Or.inr (Or.inl rfl) | exact Or.inr (Or.inr rfl)⟩ (rf_lst (ra_cons (re_var (i := 1) rfl (by first | exact Or.inl rfl | exact Or.inr (Or.inl rfl) | exact Or.inr (Or.inr rfl))) ra_nil)))
  (rb_cons (rs_while (rt_valN (i := 3) rfl (by first | exact Or.inl rfl | exact Or.inr (Or.inl rfl) | exact Or.inr (Or.inr rfl))) (rb_cons (rs_set (i := 4) ⟨by rfl, by first | exact Or.inl rfl | exact Or.inr rfl, by first | exact Or.inl rfl | exact Or.inr (Or.inl rfl) | exact Or.inr (Or.inr rfl)⟩ (re_ix (re_var (i := 0) rfl (by first | exact Or.inl rfl | exact Or.inr (Or.inl rfl) | exact Or.inr (Or.inr rfl))) (re_pop (i := 3) rfl (by first | exact Or.inl rfl | exact Or.inr (Or.inl rfl) | exact Or.inr (Or.inr rfl)))))
  (rb_cons (rs_owncomp (i := 5) rfl rfl (fun env h => by cases env; cases h; rfl) (own := [("place", 7), ("entry", 8)]) (by dsimp only; decide +kernel) (ri_enum (by rfl) M.n_enumerate (ra_cons (re_var (i := 4) rfl (by first | exact Or.inl rfl | exact Or.inr (Or.inl rfl) | exact Or.inr (Or.inr rfl))) ra_nil)) (rg_t (.cons ⟨by rfl, by first | exact Or.inl rfl | exact Or.inr rfl, by first | exact Or.inl rfl | exact Or.inr (Or.inl rfl) | exact Or.inr (Or.inr rfl)⟩ (.cons ⟨by rfl, by first | exact Or.inl rfl | exact Or.inr rfl, by first | exact Or.inl rfl | exact Or.inr (Or.inl rfl) | exact Or.inr (Or.inr rfl)⟩ .nil))) (rts_one (rw_rt (rw_and (rt_cmp o_ne (re_var (i := 8) rfl (by first | exact Or.inl rfl | exact Or.inr (Or.inl rfl) | exact Or.inr (Or.inr rfl))) re_int) (rw_and1 (rt_rc (rc_inN (i := 2) true (re_var (i := 7) rfl (by first | exact Or.inl rfl | exact Or.inr (Or.inl rfl) | exact Or.inr (Or.inr rfl))) rfl (by first | exact Or.inl rfl | exact Or.inr (Or.inl rfl) | exact Or.inr (Or.inr rfl)))))))) (re_var (i := 7) rfl (by first | exact Or.inl rfl | exact Or.inr (Or.inl rfl) | exact Or.inr (Or.inr rfl))))
  (rb_cons (rs_for (ri_seq (re_var (i := 5) rfl (by first | exact Or.inl rfl | exact Or.inr (Or.inl rfl) | exact Or.inr (Or.inr rfl)))) (rg_n (i := 6) ⟨by rfl, by first | exact Or.inl rfl | exact Or.inr rfl, by first | exact Or.inl rfl | exact Or.inr (Or.inl rfl) | exact Or.inr (Or.inr rfl)⟩) (rb_one (rs_seti (i := 2) rfl (by first | exact Or.inl rfl | exact Or.inr (Or.inl rfl) | exact Or.inr (Or.inr rfl)) re_bl (re_var (i := 6) rfl (by first | exact Or.inl rfl | exact Or.inr (Or.inl rfl) | exact Or.inr (Or.inr rfl))))))
  (rb_one (rs_own (i := 3) ⟨by rfl, by first | exact Or.inl rfl | exact Or.inr rfl, by first | exact Or.inl rfl | exact Or.inr (Or.inl rfl) | exact Or.inr (Or.inr rfl)⟩ (rf_cat (re_var (i := 3) rfl (by first | exact Or.inl rfl | exact Or.inr (Or.inl rfl) | exact Or.inr (Or.inr rfl))) (re_var (i := 5) rfl (by first | exact Or.inl rfl | exact Or.inr (Or.inl rfl) | exact Or.inr (Or.inr rfl))))))))))
  (rb_one (rs_ret (re_cb c_sorted2 (by rfl) M.n_sorted (by decide +kernel) (ra_cons (re_var (i := 2) rfl (by first | exact Or.inl rfl | exact Or.inr (Or.inl rfl) | exact Or.inr (Or.inr rfl))) ra_nil)))))))) hm b
  exact z
theorem R__law_right {G : Wo} (M : Mg G) {fa c P : Addr} {kV doc pm ct oc : Value} {an od : Option Addr} {osl : Array (Option Value)} (lk : G.K.lookup fa = some ⟨oc, od, .func (PySem.W.fnOf "_law_right" "_law_right" (defArgs s__law_right) (defBody s__law_right) (defScope s__law_right) .none kV doc pm an (.ref c) ct), osl⟩) (hcd : PySem.W.codeIn G.K (.ref c) "_law_right" = true) (TB : LamX.TabB G.base G.mg c P) (hT : (P, ("_law_right.<locals>." : Str) ++ "<lambda>") ∈ G.T) (hu : ∀ p ∈ G.T, p.1 = P → p.2 = ("_law_right.<locals>." : Str) ++ "<lambda>") (hm : G.mg "_law_right" = some (.ref fa)) (kp : PySem.W.keepIn G.K (.ref fa) = true) (b : L2.Binds G.K (PySem.W.fnOf "_law_right" "_law_right" (defArgs s__law_right) (defBody s__law_right) (defScope s__law_right) .none kV doc pm an (.ref c) ct) ["dice"] []) (D__law_pick : DefB G 4 "_law_pick" 1 m__law_pick) (D_Lots___init__ : MakeOk G 11 "Lots" 1 m_Lots___init__) (D_link_things : DefOk G 12 "link_things" 2 m_link_things) (D_pair_weights : DefOk G 12 "pair_weights" 2 m_pair_weights) (D_masses : DefOk G 12 "masses" 2 m_masses) (D_local_walk : DefOk G 12 "local_walk" 2 m_local_walk) (D_walk_shares : DefOk G 12 "walk_shares" 2 m_walk_shares) (D_hangs_together : DefOk G 13 "hangs_together" 2 m_hangs_together) (D_pieces : DefOk G 12 "pieces" 2 m_pieces) (D_parting : DefOk G 13 "parting" 2 m_parting) (D_is_parting : DefOk G 12 "is_parting" 3 m_is_parting) (H__law_met : ∀ k, HearOk G k "_law_met" "call" SUB ks__law_met c__law_met) : DefB G 16 "_law_right" 0 (fnB 7 F__law_right) := by
  have z := def_fnBL (lv := 15) (n := 0) lk hcd TB sc__law_right (f := F__law_right) ((rb_cons (rs_set (i := 1) ⟨by rfl, by first | exact Or.inl rfl | exact Or.inr rfl, by first | exact Or.inl rfl | exact Or.inr (Or.inl rfl) | exact Or.inr (Or.inr rfl)⟩ (re_callB (i := 0) D__law_pick (Nat.le_of_ble_eq_true rfl) (by rfl) rfl (by first | exact Or.inl rfl | exact Or.inr (Or.inl rfl) | exact Or.inr (Or.inr rfl)) (ra_cons (re_lst (ra_cons re_non (ra_cons re_int (ra_cons re_dic0 (ra_cons (re_rf (rf_disp (rp_cons (re_tup (ra_cons re_int (ra_cons re_int ra_nil))) re_int rp_nil))) (ra_cons re_str (ra_cons (re_lst ra_nil) (ra_cons (re_tup ra_nil) ra_nil)))))))) ra_nil)))
  (rb_cons (rs_set (i := 2) ⟨by rfl, by first | exact Or.inl rfl | exact Or.inr rfl, by first | exact Or.inl rfl | exact Or.inr (Or.inl rfl) | exact Or.inr (Or.inr rfl)⟩ (re_callB (i := 0) D__law_pick (Nat.le_of_ble_eq_true rfl) (by rfl) rfl (by first | exact Or.inl rfl | exact Or.inr (Or.inl rfl) | exact Or.inr (Or.inr rfl)) (ra_cons (re_lst (ra_cons re_non (ra_cons re_int (ra_cons re_str (ra_cons (re_lst (ra_cons re_int ra_nil)) (ra_cons (re_tup (ra_cons re_int ra_nil)) (ra_cons (re_tup (ra_cons re_int (ra_cons re_int ra_nil))) (ra_cons (re_tup (ra_cons re_int (ra_cons re_int ra_nil))) (ra_cons (re_tup (ra_cons re_bl ra_nil)) (ra_cons (re_tup (ra_cons re_str ra_nil)) (ra_cons (re_tup (ra_cons (re_neg re_int) ra_nil)) (ra_cons (re_tup (ra_cons re_int (ra_cons re_int (ra_cons re_int (ra_cons re_int ra_nil))))) (ra_cons re_dic0 (ra_cons (re_tup (ra_cons (re_tup (ra_cons re_int ra_nil)) ra_nil)) (ra_cons (re_tup (ra_cons re_non ra_nil)) (ra_cons (re_tup (ra_cons re_int (ra_cons re_int ra_nil))) ra_nil)))))))))))))))) ra_nil)))
  (rb_cons (rs_set (i := 3) ⟨by rfl, by first | exact Or.inl rfl | exact Or.inr rfl, by first | exact Or.inl rfl | exact Or.inr (Or.inl rfl) | exact Or.inr (Or.inr rfl)⟩ (re_callB (i := 0) D__law_pick (Nat.le_of_ble_eq_true rfl) (by rfl) rfl (by first | exact Or.inl rfl | exact Or.inr (Or.inl rfl) | exact Or.inr (Or.inr rfl)) (ra_cons (re_lst (ra_cons (re_tup (ra_cons re_int (ra_cons re_int ra_nil))) (ra_cons (re_tup (ra_cons re_int (ra_cons re_int ra_nil))) (ra_cons (re_tup (ra_cons re_int (ra_cons re_int (ra_cons re_int ra_nil)))) (ra_cons (re_tup (ra_cons re_int (ra_cons re_int (ra_cons re_int ra_nil)))) (ra_cons (re_tup (ra_cons re_int (ra_cons re_int ra_nil))) ra_nil)))))) ra_nil)))
  (rb_cons (rs_set (i := 4) ⟨by rfl, by first | exact Or.inl rfl | exact Or.inr rfl, by first | exact Or.inl rfl | exact Or.inr (Or.inl rfl) | exact Or.inr (Or.inr rfl)⟩ (re_rf (rf_make D_Lots___init__ (Nat.le_of_ble_eq_true rfl) (by rfl) (ra_cons (re_rf (rf_disp (rp_cons (re_tup (ra_cons re_int (ra_cons re_int (ra_cons re_int ra_nil)))) re_int (rp_cons (re_tup (ra_cons re_int (ra_cons re_int (ra_cons re_int ra_nil)))) re_int (rp_cons (re_tup (ra_cons re_int (ra_cons re_int (ra_cons re_int ra_nil)))) (re_tup (ra_cons re_int (ra_cons re_int ra_nil))) rp_nil))))) ra_nil))))
  (rb_cons (rs_own (i := 5) ⟨by rfl, by first | exact Or.inl rfl | exact Or.inr rfl, by first | exact Or.inl rfl | exact Or.inr (Or.inl rfl) | exact Or.inr (Or.inr rfl)⟩ (rf_lst ra_nil))
  (rb_cons (rs_for (ri_seq (re_tup (ra_cons (re_gd D_link_things (by rfl)) (ra_cons (re_gd D_pair_weights (by rfl)) (ra_cons (re_gd D_masses (by rfl)) (ra_cons (re_gd D_local_walk (by rfl)) (ra_cons (re_gd D_walk_shares (by rfl)) (ra_cons (re_gd D_hangs_together (by rfl)) (ra_cons (re_gd D_pieces (by rfl)) (ra_cons (re_gd D_parting (by rfl)) ra_nil)))))))))) (rg_n (i := 6) ⟨by rfl, by first | exact Or.inl rfl | exact Or.inr rfl, by first | exact Or.inl rfl | exact Or.inr (Or.inl rfl) | exact Or.inr (Or.inr rfl)⟩) (rb_cons (rs_expr (re_app (i := 5) rfl (by first | exact Or.inl rfl | exact Or.inr (Or.inl rfl) | exact Or.inr (Or.inr rfl)) (re_hear (k := 13) (H__law_met _) (Nat.le_of_ble_eq_true rfl) (by rfl) rfl hT hu (LamX.lamS_by (by dsimp only; decide +kernel)) (fun _ => rfl) (fun _ _ _ _ _ => rfl) (re_callv (i := 6) (tab_cons (k := 13) D_link_things (Nat.le_of_ble_eq_true rfl) (tab_cons (k := 13) D_pair_weights (Nat.le_of_ble_eq_true rfl) (tab_cons (k := 13) D_masses (Nat.le_of_ble_eq_true rfl) (tab_cons (k := 13) D_local_walk (Nat.le_of_ble_eq_true rfl) (tab_cons (k := 13) D_walk_shares (Nat.le_of_ble_eq_true rfl) (tab_cons (k := 13) D_hangs_together (Nat.le_of_ble_eq_true rfl) (tab_cons (k := 13) D_pieces (Nat.le_of_ble_eq_true rfl) (tab_cons (k := 13) D_parting (Nat.le_of_ble_eq_true rfl) tab_nil)))))))) (Nat.le_of_ble_eq_true rfl) rfl (by first | exact Or.inl rfl | exact Or.inr (Or.inl rfl) | exact Or.inr (Or.inr rfl)) (ra_cons (re_var (i := 1) rfl (by first | exact Or.inl rfl | exact Or.inr (Or.inl rfl) | exact Or.inr (Or.inr rfl))) (ra_cons (re_var (i := 2) rfl (by first | exact Or.inl rfl | exact Or.inr (Or.inl rfl) | exact Or.inr (Or.inr rfl))) ra_nil))))))
  (rb_cons (rs_expr (re_app (i := 5) rfl (by first | exact Or.inl rfl | exact Or.inr (Or.inl rfl) | exact Or.inr (Or.inr rfl)) (re_hear (k := 13) (H__law_met _) (Nat.le_of_ble_eq_true rfl) (by rfl) rfl hT hu (LamX.lamS_by (by dsimp only; decide +kernel)) (fun _ => rfl) (fun _ _ _ _ _ => rfl) (re_callv (i := 6) (tab_cons (k := 13) D_link_things (Nat.le_of_ble_eq_true rfl) (tab_cons (k := 13) D_pair_weights (Nat.le_of_ble_eq_true rfl) (tab_cons (k := 13) D_masses (Nat.le_of_ble_eq_true rfl) (tab_cons (k := 13) D_local_walk (Nat.le_of_ble_eq_true rfl) (tab_cons (k := 13) D_walk_shares (Nat.le_of_ble_eq_true rfl) (tab_cons (k := 13) D_hangs_together (Nat.le_of_ble_eq_true rfl) (tab_cons (k := 13) D_pieces (Nat.le_of_ble_eq_true rfl) (tab_cons (k := 13) D_parting (Nat.le_of_ble_eq_true rfl) tab_nil)))))))) (Nat.le_of_ble_eq_true rfl) rfl (by first | exact Or.inl rfl | exact Or.inr (Or.inl rfl) | exact Or.inr (Or.inr rfl)) (ra_cons (re_var (i := 4) rfl (by first | exact Or.inl rfl | exact Or.inr (Or.inl rfl) | exact Or.inr (Or.inr rfl))) (ra_cons (re_var (i := 2) rfl (by first | exact Or.inl rfl | exact Or.inr (Or.inl rfl) | exact Or.inr (Or.inr rfl))) ra_nil))))))
  (rb_cons (rs_expr (re_app (i := 5) rfl (by first | exact Or.inl rfl | exact Or.inr (Or.inl rfl) | exact Or.inr (Or.inr rfl)) (re_hear (k := 13) (H__law_met _) (Nat.le_of_ble_eq_true rfl) (by rfl) rfl hT hu (LamX.lamS_by (by dsimp only; decide +kernel)) (fun _ => rfl) (fun _ _ _ _ _ => rfl) (re_callv (i := 6) (tab_cons (k := 13) D_link_things (Nat.le_of_ble_eq_true rfl) (tab_cons (k := 13) D_pair_weights (Nat.le_of_ble_eq_true rfl) (tab_cons (k := 13) D_masses (Nat.le_of_ble_eq_true rfl) (tab_cons (k := 13) D_local_walk (Nat.le_of_ble_eq_true rfl) (tab_cons (k := 13) D_walk_shares (Nat.le_of_ble_eq_true rfl) (tab_cons (k := 13) D_hangs_together (Nat.le_of_ble_eq_true rfl) (tab_cons (k := 13) D_pieces (Nat.le_of_ble_eq_true rfl) (tab_cons (k := 13) D_parting (Nat.le_of_ble_eq_true rfl) tab_nil)))))))) (Nat.le_of_ble_eq_true rfl) rfl (by first | exact Or.inl rfl | exact Or.inr (Or.inl rfl) | exact Or.inr (Or.inr rfl)) (ra_cons (re_var (i := 4) rfl (by first | exact Or.inl rfl | exact Or.inr (Or.inl rfl) | exact Or.inr (Or.inr rfl))) (ra_cons (re_var (i := 3) rfl (by first | exact Or.inl rfl | exact Or.inr (Or.inl rfl) | exact Or.inr (Or.inr rfl))) ra_nil))))))
  (rb_one (rs_expr (re_app (i := 5) rfl (by first | exact Or.inl rfl | exact Or.inr (Or.inl rfl) | exact Or.inr (Or.inr rfl)) (re_hear (k := 13) (H__law_met _) (Nat.le_of_ble_eq_true rfl) (by rfl) rfl hT hu (LamX.lamS_by (by dsimp only; decide +kernel)) (fun _ => rfl) (fun _ _ _ _ _ => rfl) (re_callv (i := 6) (tab_cons (k := 13) D_link_things (Nat.le_of_ble_eq_true rfl) (tab_cons (k := 13) D_pair_weights (Nat.le_of_ble_eq_true rfl) (tab_cons (k := 13) D_masses (Nat.le_of_ble_eq_true rfl) (tab_cons (k := 13) D_local_walk (Nat.le_of_ble_eq_true rfl) (tab_cons (k := 13) D_walk_shares (Nat.le_of_ble_eq_true rfl) (tab_cons (k := 13) D_hangs_together (Nat.le_of_ble_eq_true rfl) (tab_cons (k := 13) D_pieces (Nat.le_of_ble_eq_true rfl) (tab_cons (k := 13) D_parting (Nat.le_of_ble_eq_true rfl) tab_nil)))))))) (Nat.le_of_ble_eq_true rfl) rfl (by first | exact Or.inl rfl | exact Or.inr (Or.inl rfl) | exact Or.inr (Or.inr rfl)) (ra_cons (re_var (i := 4) rfl (by first | exact Or.inl rfl | exact Or.inr (Or.inl rfl) | exact Or.inr (Or.inr rfl))) (ra_cons (re_tup (ra_cons re_int ra_nil)) ra_nil)))))))))))
  (rb_cons (rs_expr (re_app (i := 5) rfl (by first | exact Or.inl rfl | exact Or.inr (Or.inl rfl) | exact Or.inr (Or.inr rfl)) (re_hear (k := 13) (H__law_met _) (Nat.le_of_ble_eq_true rfl) (by rfl) rfl hT hu (LamX.lamS_by (by dsimp only; decide +kernel)) (fun _ => rfl) (fun _ _ _ _ _ => rfl) (re_call D_is_parting (Nat.le_of_ble_eq_true rfl) (by rfl) (ra_cons (re_var (i := 1) rfl (by first | exact Or.inl rfl | exact Or.inr (Or.inl rfl) | exact Or.inr (Or.inr rfl))) (ra_cons (re_var (i := 2) rfl (by first | exact Or.inl rfl | exact Or.inr (Or.inl rfl) | exact Or.inr (Or.inr rfl))) (ra_cons re_non ra_nil)))))))
  (rb_cons (rs_expr (re_app (i := 5) rfl (by first | exact Or.inl rfl | exact Or.inr (Or.inl rfl) | exact Or.inr (Or.inr rfl)) (re_hear (k := 13) (H__law_met _) (Nat.le_of_ble_eq_true rfl) (by rfl) rfl hT hu (LamX.lamS_by (by dsimp only; decide +kernel)) (fun _ => rfl) (fun _ _ _ _ _ => rfl) (re_call D_is_parting (Nat.le_of_ble_eq_true rfl) (by rfl) (ra_cons (re_var (i := 4) rfl (by first | exact Or.inl rfl | exact Or.inr (Or.inl rfl) | exact Or.inr (Or.inr rfl))) (ra_cons (re_var (i := 2) rfl (by first | exact Or.inl rfl | exact Or.inr (Or.inl rfl) | exact Or.inr (Or.inr rfl))) (ra_cons re_non ra_nil)))))))
  (rb_cons (rs_expr (re_app (i := 5) rfl (by first | exact Or.inl rfl | exact Or.inr (Or.inl rfl) | exact Or.inr (Or.inr rfl)) (re_hear (k := 13) (H__law_met _) (Nat.le_of_ble_eq_true rfl) (by rfl) rfl hT hu (LamX.lamS_by (by dsimp only; decide +kernel)) (fun _ => rfl) (fun _ _ _ _ _ => rfl) (re_call D_is_parting (Nat.le_of_ble_eq_true rfl) (by rfl) (ra_cons (re_var (i := 4) rfl (by first | exact Or.inl rfl | exact Or.inr (Or.inl rfl) | exact Or.inr (Or.inr rfl))) (ra_cons (re_var (i := 3) rfl (by first | exact Or.inl rfl | exact Or.inr (Or.inl rfl) | exact Or.inr (Or.inr rfl))) (ra_cons re_non ra_nil)))))))
  (rb_cons (rs_expr (re_app (i := 5) rfl (by first | exact Or.inl rfl | exact Or.inr (Or.inl rfl) | exact Or.inr (Or.inr rfl)) (re_hear (k := 13) (H__law_met _) (Nat.le_of_ble_eq_true rfl) (by rfl) rfl hT hu (LamX.lamS_by (by dsimp only; decide +kernel)) (fun _ => rfl) (fun _ _ _ _ _ => rfl) (re_call D_is_parting (Nat.le_of_ble_eq_true rfl) (by rfl) (ra_cons (re_var (i := 4) rfl (by first | exact Or.inl rfl | exact Or.inr (Or.inl rfl) | exact Or.inr (Or.inr rfl))) (ra_cons (re_tup (ra_cons re_int ra_nil)) (ra_cons re_non ra_nil)))))))
  (rb_one (rs_ret (re_cmp o_eq (re_var (i := 5) rfl (by first | exact Or.inl rfl | exact Or.inr (Or.inl rfl) | exact Or.inr (Or.inr rfl))) (re_bin o_mul (re_lst (ra_cons (re_tup (ra_cons re_str (ra_cons re_str ra_nil))) (ra_cons (re_tup (ra_cons re_str (ra_cons re_str ra_nil))) (ra_cons (re_tup (ra_cons re_str (ra_cons re_str ra_nil))) (ra_cons (re_tup (ra_cons re_str ra_nil)) ra_nil))))) re_int))))))))))))))) rfl (by decide)
  exact ⟨fa, _, ["dice"], rfl, z, hm, kp, b⟩
end Pv.K18
namespace Pv.K18
open PySem PySem.Spec PyProof.Rows L2 Pv
open Pg (oxB oxB_ok tl_VE tl_IE tl_KE tl_RE tl_OE tl_AE)
theorem R__law_pick {G : Wo} (M : Mg G) (A : DefAt G s__law_pick "_law_pick" ["dice", "items"]) (D__law_roll : DefB G 3 "_law_roll" 1 m__law_roll) : DefB G 4 "_law_pick" 1 (fnB 2 F__law_pick) := by
  obtain ⟨fa, fd, Fd, hm, b⟩ := A.ex
  have z := def_okB (lv := 3) Fd sc__law_pick (f := F__law_pick) ((rb_one (rs_ret (re_ix (re_var (i := 1) rfl (by first | exact Or.inl rfl | exact Or.inr (Or.inl rfl) | exact Or.inr (Or.inr rfl))) (re_callB (i := 0) D__law_roll (Nat.le_of_ble_eq_true rfl) (by rfl) rfl (by first | exact Or.inl rfl | exact Or.inr (Or.inl rfl) | exact Or.inr (Or.inr rfl)) (ra_cons (re_cb c_len (by rfl) M.n_len (by decide +kernel) (ra_cons (re_var (i := 1) rfl (by first | exact Or.inl rfl | exact Or.inr (Or.inl rfl) | exact Or.inr (Or.inr rfl))) ra_nil)) ra_nil)))))) hm b rfl (by decide)
  exact z
theorem R__are_different_lots {G : Wo} (M : Mg G) (A : DefAt G s__are_different_lots "_are_different_lots" ["value"]) (D_is_lot : DefOk G 8 "is_lot" 1 m_is_lot) : DefOk G 9 "_are_different_lots" 1 (fnOf 2 F__are_different_lots) := by
  obtain ⟨fa, fd, Fd, hm, b⟩ := A.ex
  have z := def_ok (lv := 8) Fd sc__are_different_lots (f := F__are_different_lots) ((rb_cons (rs_if (rw_rt (rw_or (rt_not (rt_val (re_cb c_isi (by rfl) M.n_isinstance (by decide +kernel) (ra_cons (re_var (i := 0) rfl (by first | exact Or.inl rfl | exact Or.inr (Or.inl rfl) | exact Or.inr (Or.inr rfl))) (ra_cons (re_bty (by rfl) M.n_tuple (by decide +kernel)) ra_nil))))) (rw_or1 (rt_not (rt_chain o_le o_le re_int (re_cb c_len (by rfl) M.n_len (by decide +kernel) (ra_cons (re_var (i := 0) rfl (by first | exact Or.inl rfl | exact Or.inr (Or.inl rfl) | exact Or.inr (Or.inr rfl))) ra_nil)) (re_gintE (by rfl) M.cMAX_LOTS)))))) (rb_one (rs_ret re_bl)) rb_nil)
  (rb_cons (rs_if (rt_not (rt_val (re_cb c_all (by rfl) M.n_all (by decide +kernel) (ra_cons (re_comp (own := [("lot", 1)]) (by dsimp only; decide +kernel) (ri_seq (re_var (i := 0) rfl (by first | exact Or.inl rfl | exact Or.inr (Or.inl rfl) | exact Or.inr (Or.inr rfl)))) (rg_n (i := 1) ⟨by rfl, by first | exact Or.inl rfl | exact Or.inr rfl, by first | exact Or.inl rfl | exact Or.inr (Or.inl rfl) | exact Or.inr (Or.inr rfl)⟩) rts_nil (re_call D_is_lot (Nat.le_of_ble_eq_true rfl) (by rfl) (ra_cons (re_var (i := 1) rfl (by first | exact Or.inl rfl | exact Or.inr (Or.inl rfl) | exact Or.inr (Or.inr rfl))) ra_nil))) ra_nil)))) (rb_one (rs_ret re_bl)) rb_nil)
  (rb_one (rs_ret (re_and (re_cmp o_eq (re_lenset (by rfl) M.n_len (by rfl) M.n_set (re_var (i := 0) rfl (by first | exact Or.inl rfl | exact Or.inr (Or.inl rfl) | exact Or.inr (Or.inr rfl)))) (re_cb c_len (by rfl) M.n_len (by decide +kernel) (ra_cons (re_var (i := 0) rfl (by first | exact Or.inl rfl | exact Or.inr (Or.inl rfl) | exact Or.inr (Or.inr rfl))) ra_nil))) (re_one (re_cb c_all (by rfl) M.n_all (by decide +kernel) (ra_cons (re_comp (own := [("lot", 1)]) (by dsimp only; decide +kernel) (ri_seq (re_var (i := 0) rfl (by first | exact Or.inl rfl | exact Or.inr (Or.inl rfl) | exact Or.inr (Or.inr rfl)))) (rg_n (i := 1) ⟨by rfl, by first | exact Or.inl rfl | exact Or.inr rfl, by first | exact Or.inl rfl | exact Or.inr (Or.inl rfl) | exact Or.inr (Or.inr rfl)⟩) rts_nil (re_cmp o_eq (re_cb c_len (by rfl) M.n_len (by decide +kernel) (ra_cons (re_var (i := 1) rfl (by first | exact Or.inl rfl | exact Or.inr (Or.inl rfl) | exact Or.inr (Or.inr rfl))) ra_nil)) (re_cb c_len (by rfl) M.n_len (by decide +kernel) (ra_cons (re_ix (re_var (i := 0) rfl (by first | exact Or.inl rfl | exact Or.inr (Or.inl rfl) | exact Or.inr (Or.inr rfl))) re_int) ra_nil)))) ra_nil))))))))) hm b
  exact z
theorem R_common_divisor {G : Wo} (M : Mg G) (A : DefAt G s_common_divisor "common_divisor" ["integers"]) : DefOk G 3 "common_divisor" 1 (fnOf 3 F_common_divisor) := by
  obtain ⟨fa, fd, Fd, hm, b⟩ := A.ex
  have z := def_ok (lv := 2) Fd sc_common_divisor (f := F_common_divisor) ((rb_cons (rs_set (i := 1) ⟨by rfl, by first | exact Or.inl rfl | exact Or.inr rfl, by first | exact Or.inl rfl | exact Or.inr (Or.inl rfl) | exact Or.inr (Or.inr rfl)⟩ re_int)
  (rb_cons (rs_for (ri_seq (re_var (i := 0) rfl (by first | exact Or.inl rfl | exact Or.inr (Or.inl rfl) | exact Or.inr (Or.inr rfl)))) (rg_n (i := 2) ⟨by rfl, by first | exact Or.inl rfl | exact Or.inr rfl, by first | exact Or.inl rfl | exact Or.inr (Or.inl rfl) | exact Or.inr (Or.inr rfl)⟩) (rb_one (rs_set (i := 1) ⟨by rfl, by first | exact Or.inl rfl | exact Or.inr rfl, by first | exact Or.inl rfl | exact Or.inr (Or.inl rfl) | exact Or.inr (Or.inr rfl)⟩ (re_cf c_gcd (by rfl) M.n_gcd (ra_cons (re_var (i := 1) rfl (by first | exact Or.inl rfl | exact Or.inr (Or.inl rfl) | exact Or.inr (Or.inr rfl))) (ra_cons (re_var (i := 2) rfl (by first | exact Or.inl rfl | exact Or.inr (Or.inl rfl) | exact Or.inr (Or.inr rfl))) ra_nil))))))
  (rb_one (rs_ret (re_var (i := 1) rfl (by first | exact Or.inl rfl | exact Or.inr (Or.inl rfl) | exact Or.inr (Or.inr rfl)))))))) hm b
  exact z
theorem R_Lots_size {G : Wo} (M : Mg G) (A : PropAt G s_Lots_size "Lots" "size" "Lots.size" ["self"]) : PropOk G 3 "Lots" "size" (fnOf 1 F_Lots_size) := by
  obtain ⟨c, p, f, fd, hm, cl, me, Fd, b⟩ := A.ex
  have z := def_fn (lv := 2) Fd sc_Lots_size (f := F_Lots_size) ((rb_one (rs_ret (re_fld M.q_Lots__size (re_var (i := 0) rfl (by first | exact Or.inl rfl | exact Or.inr (Or.inl rfl) | exact Or.inr (Or.inr rfl)))))))
  exact ⟨c, p, f, fd, ["self"], hm, cl, me, rfl, z, b⟩
theorem R_Lots_things {G : Wo} (M : Mg G) (A : PropAt G s_Lots_things "Lots" "things" "Lots.things" ["self"]) : PropOk G 3 "Lots" "things" (fnOf 2 F_Lots_things) := by
  obtain ⟨c, p, f, fd, hm, cl, me, Fd, b⟩ := A.ex
  have z := def_fn (lv := 2) Fd sc_Lots_things (f := F_Lots_things) ((rb_one (rs_ret (re_ct c_tuple3 (by rfl) M.n_tuple (by decide +kernel) (ra_cons (re_comp (own := [("pin", 1)]) (by dsimp only; decide +kernel) (ri_seq (re_ix (re_fld M.q_Lots__multiples (re_var (i := 0) rfl (by first | exact Or.inl rfl | exact Or.inr (Or.inl rfl) | exact Or.inr (Or.inr rfl)))) re_int)) (rg_n (i := 1) ⟨by rfl, by first | exact Or.inl rfl | exact Or.inr rfl, by first | exact Or.inl rfl | exact Or.inr (Or.inl rfl) | exact Or.inr (Or.inr rfl)⟩) rts_nil (re_ix (re_var (i := 1) rfl (by first | exact Or.inl rfl | exact Or.inr (Or.inl rfl) | exact Or.inr (Or.inr rfl))) re_int)) ra_nil)))))
  exact ⟨c, p, f, fd, ["self"], hm, cl, me, rfl, z, b⟩
theorem R_multiplied {G : Wo} (M : Mg G) (A : DefAt G s_multiplied "multiplied" ["one", "other"]) (D__checked : DefOk G 7 "_checked" 1 m__checked) (D__reduced : DefOk G 3 "_reduced" 2 m__reduced) : DefOk G 8 "multiplied" 2 (fnOf 6 F_multiplied) := by
  obtain ⟨fa, fd, Fd, hm, b⟩ := A.ex
  have z := def_ok (lv := 7) Fd sc_multiplied (f := F_multiplied) ((rb_cons (rs_asg (rg_t (.cons ⟨by rfl, by first | exact Or.inl rfl | exact Or.inr rfl, by first | exact Or.inl rfl | exact Or.inr (Or.inl rfl) | exact Or.inr (Or.inr rfl)⟩ (.cons ⟨by rfl, by first | exact Or.inl rfl | exact Or.inr rfl, by first | exact Or.inl rfl | exact Or.inr (Or.inl rfl) | exact Or.inr (Or.inr rfl)⟩ .nil))) (re_call D__checked (Nat.le_of_ble_eq_true rfl) (by rfl) (ra_cons (re_var (i := 0) rfl (by first | exact Or.inl rfl | exact Or.inr (Or.inl rfl) | exact Or.inr (Or.inr rfl))) ra_nil)))
  (rb_cons (rs_asg (rg_t (.cons ⟨by rfl, by first | exact Or.inl rfl | exact Or.inr rfl, by first | exact Or.inl rfl | exact Or.inr (Or.inl rfl) | exact Or.inr (Or.inr rfl)⟩ (.cons ⟨by rfl, by first | exact Or.inl rfl | exact Or.inr rfl, by first | exact Or.inl rfl | exact Or.inr (Or.inl rfl) | exact Or.inr (Or.inr rfl)⟩ .nil))) (re_call D__checked (Nat.le_of_ble_eq_true rfl) (by rfl) (ra_cons (re_var (i := 1) rfl (by first | exact Or.inl rfl | exact Or.inr (Or.inl rfl) | exact Or.inr (Or.inr rfl))) ra_nil)))
  (rb_one (rs_ret (re_call D__reduced (Nat.le_of_ble_eq_true rfl) (by rfl) (ra_cons (re_bin o_mul (re_var (i := 2) rfl (by first | exact Or.inl rfl | exact Or.inr (Or.inl rfl) | exact Or.inr (Or.inr rfl))) (re_var (i := 4) rfl (by first | exact Or.inl rfl | exact Or.inr (Or.inl rfl) | exact Or.inr (Or.inr rfl)))) (ra_cons (re_bin o_mul (re_var (i := 3) rfl (by first | exact Or.inl rfl | exact Or.inr (Or.inl rfl) | exact Or.inr (Or.inr rfl))) (re_var (i := 5) rfl (by first | exact Or.inl rfl | exact Or.inr (Or.inl rfl) | exact Or.inr (Or.inr rfl)))) ra_nil)))))))) hm b
  exact z
theorem R_pieces_of_rows {G : Wo} (M : Mg G) (A : DefAt G s_pieces_of_rows "pieces_of_rows" ["rows"]) (D__reached : DefOk G 3 "_reached" 2 m__reached) : DefOk G 4 "pieces_of_rows" 1 (fnOf 5 F_pieces_of_rows) := by
  obtain ⟨fa, fd, Fd, hm, b⟩ := A.ex
  have z := def_ok (lv := 3) Fd sc_pieces_of_rows (f := F_pieces_of_rows) ((rb_cons (rs_own (i := 1) ⟨by rfl, by first | exact Or.inl rfl | exact Or.inr rfl, by first | exact Or.inl rfl | exact Or.inr (Or.inl rfl) | exact Or.inr (Or.inr rfl)⟩ (rf_lst ra_nil))
  (rb_cons (rs_set (i := 2) ⟨by rfl, by first | exact Or.inl rfl | exact Or.inr rfl, by first | exact Or.inl rfl | exact Or.inr (Or.inl rfl) | exact Or.inr (Or.inr rfl)⟩ (re_ct c_list3 (by rfl) M.n_list (by decide +kernel) (ra_cons (re_ct c_rgV (by rfl) M.n_range (by decide +kernel) (ra_cons (re_cb c_len (by rfl) M.n_len (by decide +kernel) (ra_cons (re_var (i := 0) rfl (by first | exact Or.inl rfl | exact Or.inr (Or.inl rfl) | exact Or.inr (Or.inr rfl))) ra_nil)) ra_nil)) ra_nil)))
  (rb_cons (rs_while (rt_val (re_var (i := 2) rfl (by first | exact Or.inl rfl | exact Or.inr (Or.inl rfl) | exact Or.inr (Or.inr rfl)))) (rb_cons (rs_set (i := 3) ⟨by rfl, by first | exact Or.inl rfl | exact Or.inr rfl, by first | exact Or.inl rfl | exact Or.inr (Or.inl rfl) | exact Or.inr (Or.inr rfl)⟩ (re_call D__reached (Nat.le_of_ble_eq_true rfl) (by rfl) (ra_cons (re_var (i := 0) rfl (by first | exact Or.inl rfl | exact Or.inr (Or.inl rfl) | exact Or.inr (Or.inr rfl))) (ra_cons (re_ix (re_var (i := 2) rfl (by first | exact Or.inl rfl | exact Or.inr (Or.inl rfl) | exact Or.inr (Or.inr rfl))) re_int) ra_nil))))
  (rb_cons (rs_expr (re_app (i := 1) rfl (by first | exact Or.inl rfl | exact Or.inr (Or.inl rfl) | exact Or.inr (Or.inr rfl)) (re_var (i := 3) rfl (by first | exact Or.inl rfl | exact Or.inr (Or.inl rfl) | exact Or.inr (Or.inr rfl)))))
  (rb_one (rs_owncomp (i := 2) rfl rfl (fun env h => by cases env; cases h; rfl) (own := [("place", 4)]) (by dsimp only; decide +kernel) (ri_seq (re_var (i := 2) rfl (by first | exact Or.inl rfl | exact Or.inr (Or.inl rfl) | exact Or.inr (Or.inr rfl)))) (rg_n (i := 4) ⟨by rfl, by first | exact Or.inl rfl | exact Or.inr rfl, by first | exact Or.inl rfl | exact Or.inr (Or.inl rfl) | exact Or.inr (Or.inr rfl)⟩) (rts_one (rt_rc (rc_in true (re_var (i := 4) rfl (by first | exact Or.inl rfl | exact Or.inr (Or.inl rfl) | exact Or.inr (Or.inr rfl))) (re_var (i := 3) rfl (by first | exact Or.inl rfl | exact Or.inr (Or.inl rfl) | exact Or.inr (Or.inr rfl)))))) (re_var (i := 4) rfl (by first | exact Or.inl rfl | exact Or.inr (Or.inl rfl) | exact Or.inr (Or.inr rfl))))))))
  (rb_one (rs_ret (re_var (i := 1) rfl (by first | exact Or.inl rfl | exact Or.inr (Or.inl rfl) | exact Or.inr (Or.inr rfl))))))))) hm b
  exact z
theorem R__law_dice {G : Wo} (M : Mg G) (A : DefAt G s__law_dice "_law_dice" ["script", "spot"]) : DefN G 3 "_law_dice" 2 (fnN 4 F__law_dice) := by
  obtain ⟨fa, fd, Fd, hm, b⟩ := A.ex
  have z := def_okN (lv := 2) Fd sc__law_dice (f := F__law_dice) ((rb_cons (rs_set (i := 2) ⟨by rfl, by first | exact Or.inl rfl | exact Or.inr rfl, by first | exact Or.inl rfl | exact Or.inr (Or.inl rfl) | exact Or.inr (Or.inr rfl)⟩ (re_if (rt_cmp o_lt (re_var (i := 1) rfl (by first | exact Or.inl rfl | exact Or.inr (Or.inl rfl) | exact Or.inr (Or.inr rfl))) (re_cb c_len (by rfl) M.n_len (by decide +kernel) (ra_cons (re_var (i := 0) rfl (by first | exact Or.inl rfl | exact Or.inr (Or.inl rfl) | exact Or.inr (Or.inr rfl))) ra_nil))) (re_ct c_int (by rfl) M.n_int (by decide +kernel) (ra_cons (re_ix (re_var (i := 0) rfl (by first | exact Or.inl rfl | exact Or.inr (Or.inl rfl) | exact Or.inr (Or.inr rfl))) (re_var (i := 1) rfl (by first | exact Or.inl rfl | exact Or.inr (Or.inl rfl) | exact Or.inr (Or.inr rfl)))) ra_nil)) (re_bin o_add (re_bin o_mul re_int (re_var (i := 1) rfl (by first | exact Or.inl rfl | exact Or.inr (Or.inl rfl) | exact Or.inr (Or.inr rfl)))) re_int)))
  (rb_cons (rs_set (i := 3) ⟨by rfl, by first | exact Or.inl rfl | exact Or.inr rfl, by first | exact Or.inl rfl | exact Or.inr (Or.inl rfl) | exact Or.inr (Or.inr rfl)⟩ (re_bin o_mod (re_cb c_maxA (by rfl) M.n_max (by decide +kernel) (ra_cons re_int (ra_cons (re_bin o_sub (re_cb c_abs (by rfl) M.n_abs (by decide +kernel) (ra_cons (re_var (i := 2) rfl (by first | exact Or.inl rfl | exact Or.inr (Or.inl rfl) | exact Or.inr (Or.inr rfl))) ra_nil)) (re_bin o_pow re_int re_int)) ra_nil))) (re_bin o_mul (re_bin o_pow re_int re_int) (re_bin o_pow re_int re_int))))
  (rb_one (rs_retO (rf_lst (ra_cons (re_var (i := 3) rfl (by first | exact Or.inl rfl | exact Or.inr (Or.inl rfl) | exact Or.inr (Or.inr rfl))) (ra_cons (re_bin o_add (re_bin o_add (re_bin o_add (re_bin o_mul (re_bin o_mod (re_cb c_abs (by rfl) M.n_abs (by decide +kernel) (ra_cons (re_var (i := 2) rfl (by first | exact Or.inl rfl | exact Or.inr (Or.inl rfl) | exact Or.inr (Or.inr rfl))) ra_nil)) re_int) re_int) (re_bin o_mul re_int (re_var (i := 1) rfl (by first | exact Or.inl rfl | exact Or.inr (Or.inl rfl) | exact Or.inr (Or.inr rfl))))) (re_bin o_mul re_int (re_ct c_int (by rfl) M.n_int (by decide +kernel) (ra_cons (re_cmp o_lt (re_var (i := 2) rfl (by first | exact Or.inl rfl | exact Or.inr (Or.inl rfl) | exact Or.inr (Or.inr rfl))) re_int) ra_nil)))) re_int) (ra_cons re_int ra_nil))))))))) hm b
  exact z
end Pv.K18
namespace Pv.K18
open PySem PySem.Spec PyProof.Rows L2 Pv
open Pg (oxB oxB_ok tl_VE tl_IE tl_KE tl_RE tl_OE tl_AE)
theorem R__is_whole {G : Wo} (M : Mg G) (A : DefAt G s__is_whole "_is_whole" ["value"]) : DefOk G 3 "_is_whole" 1 (fnOf 1 F__is_whole) := by
  obtain ⟨fa, fd, Fd, hm, b⟩ := A.ex
  have z := def_ok (lv := 2) Fd sc__is_whole (f := F__is_whole) ((rb_one (rs_ret (re_and (re_cb c_isi (by rfl) M.n_isinstance (by decide +kernel) (ra_cons (re_var (i := 0) rfl (by first | exact Or.inl rfl | exact Or.inr (Or.inl rfl) | exact Or.inr (Or.inr rfl))) (ra_cons (re_bty (by rfl) M.n_int (by decide +kernel)) ra_nil))) (re_one (re_not (re_cb c_isi (by rfl) M.n_isinstance (by decide +kernel) (ra_cons (re_var (i := 0) rfl (by first | exact Or.inl rfl | exact Or.inr (Or.inl rfl) | exact Or.inr (Or.inr rfl))) (ra_cons (re_bty (by rfl) M.n_bool (by decide +kernel)) ra_nil))))))))) hm b
  exact z
theorem R_is_fraction {G : Wo} (M : Mg G) (A : DefAt G s_is_fraction "is_fraction" ["value"]) (D__is_whole : DefOk G 3 "_is_whole" 1 m__is_whole) : DefOk G 4 "is_fraction" 1 (fnOf 3 F_is_fraction) := by
  obtain ⟨fa, fd, Fd, hm, b⟩ := A.ex
  have z := def_ok (lv := 3) Fd sc_is_fraction (f := F_is_fraction) ((rb_cons (rs_if (rw_rt (rw_or (rt_not (rt_val (re_cb c_isi (by rfl) M.n_isinstance (by decide +kernel) (ra_cons (re_var (i := 0) rfl (by first | exact Or.inl rfl | exact Or.inr (Or.inl rfl) | exact Or.inr (Or.inr rfl))) (ra_cons (re_bty (by rfl) M.n_tuple (by decide +kernel)) ra_nil))))) (rw_or1 (rt_cmp o_ne (re_cb c_len (by rfl) M.n_len (by decide +kernel) (ra_cons (re_var (i := 0) rfl (by first | exact Or.inl rfl | exact Or.inr (Or.inl rfl) | exact Or.inr (Or.inr rfl))) ra_nil)) re_int)))) (rb_one (rs_ret re_bl)) rb_nil)
  (rb_cons (rs_asg (rg_t (.cons ⟨by rfl, by first | exact Or.inl rfl | exact Or.inr rfl, by first | exact Or.inl rfl | exact Or.inr (Or.inl rfl) | exact Or.inr (Or.inr rfl)⟩ (.cons ⟨by rfl, by first | exact Or.inl rfl | exact Or.inr rfl, by first | exact Or.inl rfl | exact Or.inr (Or.inl rfl) | exact Or.inr (Or.inr rfl)⟩ .nil))) (re_var (i := 0) rfl (by first | exact Or.inl rfl | exact Or.inr (Or.inl rfl) | exact Or.inr (Or.inr rfl))))
  (rb_cons (rs_if (rw_rt (rw_or (rt_not (rt_val (re_call D__is_whole (Nat.le_of_ble_eq_true rfl) (by rfl) (ra_cons (re_var (i := 1) rfl (by first | exact Or.inl rfl | exact Or.inr (Or.inl rfl) | exact Or.inr (Or.inr rfl))) ra_nil)))) (rw_or1 (rt_not (rt_val (re_call D__is_whole (Nat.le_of_ble_eq_true rfl) (by rfl) (ra_cons (re_var (i := 2) rfl (by first | exact Or.inl rfl | exact Or.inr (Or.inl rfl) | exact Or.inr (Or.inr rfl))) ra_nil))))))) (rb_one (rs_ret re_bl)) rb_nil)
  (rb_one (rs_ret (re_and (re_cmp o_ge (re_var (i := 2) rfl (by first | exact Or.inl rfl | exact Or.inr (Or.inl rfl) | exact Or.inr (Or.inr rfl))) re_int) (re_one (re_cmp o_eq (re_cf c_gcd (by rfl) M.n_gcd (ra_cons (re_var (i := 1) rfl (by first | exact Or.inl rfl | exact Or.inr (Or.inl rfl) | exact Or.inr (Or.inr rfl))) (ra_cons (re_var (i := 2) rfl (by first | exact Or.inl rfl | exact Or.inr (Or.inl rfl) | exact Or.inr (Or.inr rfl))) ra_nil))) re_int))))))))) hm b
  exact z
theorem R__reduced {G : Wo} (M : Mg G) (A : DefAt G s__reduced "_reduced" ["top", "bottom"]) : DefOk G 3 "_reduced" 2 (fnOf 3 F__reduced) := by
  obtain ⟨fa, fd, Fd, hm, b⟩ := A.ex
  have z := def_ok (lv := 2) Fd sc__reduced (f := F__reduced) ((rb_cons (rs_set (i := 2) ⟨by rfl, by first | exact Or.inl rfl | exact Or.inr rfl, by first | exact Or.inl rfl | exact Or.inr (Or.inl rfl) | exact Or.inr (Or.inr rfl)⟩ (re_cf c_gcd (by rfl) M.n_gcd (ra_cons (re_var (i := 0) rfl (by first | exact Or.inl rfl | exact Or.inr (Or.inl rfl) | exact Or.inr (Or.inr rfl))) (ra_cons (re_var (i := 1) rfl (by first | exact Or.inl rfl | exact Or.inr (Or.inl rfl) | exact Or.inr (Or.inr rfl))) ra_nil))))
  (rb_cons (rs_if (rt_cmp o_lt (re_var (i := 1) rfl (by first | exact Or.inl rfl | exact Or.inr (Or.inl rfl) | exact Or.inr (Or.inr rfl))) re_int) (rb_one (rs_set (i := 2) ⟨by rfl, by first | exact Or.inl rfl | exact Or.inr rfl, by first | exact Or.inl rfl | exact Or.inr (Or.inl rfl) | exact Or.inr (Or.inr rfl)⟩ (re_neg (re_var (i := 2) rfl (by first | exact Or.inl rfl | exact Or.inr (Or.inl rfl) | exact Or.inr (Or.inr rfl)))))) rb_nil)
  (rb_one (rs_ret (re_tup (ra_cons (re_bin o_div (re_var (i := 0) rfl (by first | exact Or.inl rfl | exact Or.inr (Or.inl rfl) | exact Or.inr (Or.inr rfl))) (re_var (i := 2) rfl (by first | exact Or.inl rfl | exact Or.inr (Or.inl rfl) | exact Or.inr (Or.inr rfl)))) (ra_cons (re_bin o_div (re_var (i := 1) rfl (by first | exact Or.inl rfl | exact Or.inr (Or.inl rfl) | exact Or.inr (Or.inr rfl))) (re_var (i := 2) rfl (by first | exact Or.inl rfl | exact Or.inr (Or.inl rfl) | exact Or.inr (Or.inr rfl)))) ra_nil)))))))) hm b
  exact z
theorem R_Lots_multiple_of {G : Wo} (M : Mg G) (A : MethAt G s_Lots_multiple_of "Lots" "multiple_of" "Lots.multiple_of" ["self", "things"]) : MethOk G 3 "Lots" "multiple_of" 1 (fnOf 2 F_Lots_multiple_of) := by
  obtain ⟨c, f, fd, hm, cl, me, Fd, b⟩ := A.ex
  have z := def_fn (lv := 2) Fd sc_Lots_multiple_of (f := F_Lots_multiple_of) ((rb_one (rs_ret (re_get2 (re_ix (re_fld M.q_Lots__multiples (re_var (i := 0) rfl (by first | exact Or.inl rfl | exact Or.inr (Or.inl rfl) | exact Or.inr (Or.inr rfl)))) (re_cb c_len (by rfl) M.n_len (by decide +kernel) (ra_cons (re_var (i := 1) rfl (by first | exact Or.inl rfl | exact Or.inr (Or.inl rfl) | exact Or.inr (Or.inr rfl))) ra_nil))) (re_var (i := 1) rfl (by first | exact Or.inl rfl | exact Or.inr (Or.inl rfl) | exact Or.inr (Or.inr rfl))) re_int))))
  exact ⟨c, f, fd, ["self", "things"], hm, cl, me, rfl, z, b⟩
theorem R_together {G : Wo} (M : Mg G) (A : DefAt G s_together "together" ["pin", "things"]) : DefOk G 3 "together" 2 (fnOf 2 F_together) := by
  obtain ⟨fa, fd, Fd, hm, b⟩ := A.ex
  have z := def_ok (lv := 2) Fd sc_together (f := F_together) ((rb_one (rs_ret (re_ct c_tuple3 (by rfl) M.n_tuple (by decide +kernel) (ra_cons (re_cb c_sorted2 (by rfl) M.n_sorted (by decide +kernel) (ra_cons (re_bin o_add (re_var (i := 0) rfl (by first | exact Or.inl rfl | exact Or.inr (Or.inl rfl) | exact Or.inr (Or.inr rfl))) (re_var (i := 1) rfl (by first | exact Or.inl rfl | exact Or.inr (Or.inl rfl) | exact Or.inr (Or.inr rfl)))) ra_nil)) ra_nil))))) hm b
  exact z
theorem R_pair_weights {G : Wo} (M : Mg G) (A : DefAt G s_pair_weights "pair_weights" ["lots", "pin"]) (D_check_place : DefOk G 11 "check_place" 2 m_check_place) (D_things_left : DefOk G 5 "things_left" 2 m_things_left) (D_Lots_multiple_of : MethOk G 3 "Lots" "multiple_of" 1 m_Lots_multiple_of) (D_together : DefOk G 3 "together" 2 m_together) (D_Lots_unit : PropOk G 3 "Lots" "unit" m_Lots_unit) (D_multiplied : DefOk G 8 "multiplied" 2 m_multiplied) : DefOk G 12 "pair_weights" 2 (fnOf 9 F_pair_weights) := by
  obtain ⟨fa, fd, Fd, hm, b⟩ := A.ex
  have z := def_ok (lv := 11) Fd sc_pair_weights (f := F_pair_weights) ((rb_cons (rs_expr (re_call D_check_place (Nat.le_of_ble_eq_true rfl) (by rfl) (ra_cons (re_var (i := 0) rfl (by first | exact Or.inl rfl | exact Or.inr (Or.inl rfl) | exact Or.inr (Or.inr rfl))) (ra_cons (re_var (i := 1) rfl (by first | exact Or.inl rfl | exact Or.inr (Or.inl rfl) | exact Or.inr (Or.inr rfl))) ra_nil))))
  (rb_cons (rs_set (i := 2) ⟨by rfl, by first | exact Or.inl rfl | exact Or.inr rfl, by first | exact Or.inl rfl | exact Or.inr (Or.inl rfl) | exact Or.inr (Or.inr rfl)⟩ (re_call D_things_left (Nat.le_of_ble_eq_true rfl) (by rfl) (ra_cons (re_var (i := 0) rfl (by first | exact Or.inl rfl | exact Or.inr (Or.inl rfl) | exact Or.inr (Or.inr rfl))) (ra_cons (re_var (i := 1) rfl (by first | exact Or.inl rfl | exact Or.inr (Or.inl rfl) | exact Or.inr (Or.inr rfl))) ra_nil))))
  (rb_cons (rs_owncomp2 (i := 3) rfl rfl (fun env h => by cases env; cases h; rfl) (own := [("low", 5), ("high", 6)]) (vs1 := [6]) (by dsimp only; decide +kernel) (ri_seq (re_var (i := 2) rfl (by first | exact Or.inl rfl | exact Or.inr (Or.inl rfl) | exact Or.inr (Or.inr rfl)))) (rg_n (i := 5) ⟨by rfl, by first | exact Or.inl rfl | exact Or.inr rfl, by first | exact Or.inl rfl | exact Or.inr (Or.inl rfl) | exact Or.inr (Or.inr rfl)⟩) rts_nil (ri_seq (re_var (i := 2) rfl (by first | exact Or.inl rfl | exact Or.inr (Or.inl rfl) | exact Or.inr (Or.inr rfl)))) (rg_n (i := 6) ⟨by rfl, by first | exact Or.inl rfl | exact Or.inr rfl, by first | exact Or.inl rfl | exact Or.inr (Or.inl rfl) | exact Or.inr (Or.inr rfl)⟩) (rts_one (rt_cmp o_lt (re_var (i := 5) rfl (by first | exact Or.inl rfl | exact Or.inr (Or.inl rfl) | exact Or.inr (Or.inr rfl))) (re_var (i := 6) rfl (by first | exact Or.inl rfl | exact Or.inr (Or.inl rfl) | exact Or.inr (Or.inr rfl))))) (re_tup (ra_cons (re_var (i := 5) rfl (by first | exact Or.inl rfl | exact Or.inr (Or.inl rfl) | exact Or.inr (Or.inr rfl))) (ra_cons (re_var (i := 6) rfl (by first | exact Or.inl rfl | exact Or.inr (Or.inl rfl) | exact Or.inr (Or.inr rfl))) ra_nil))))
  (rb_cons (rs_owncomp (i := 4) rfl rfl (fun env h => by cases env; cases h; rfl) (own := [("pair", 7)]) (by dsimp only; decide +kernel) (ri_seq (re_var (i := 3) rfl (by first | exact Or.inl rfl | exact Or.inr (Or.inl rfl) | exact Or.inr (Or.inr rfl)))) (rg_n (i := 7) ⟨by rfl, by first | exact Or.inl rfl | exact Or.inr rfl, by first | exact Or.inl rfl | exact Or.inr (Or.inl rfl) | exact Or.inr (Or.inr rfl)⟩) rts_nil (re_tup (ra_cons (re_var (i := 7) rfl (by first | exact Or.inl rfl | exact Or.inr (Or.inl rfl) | exact Or.inr (Or.inr rfl))) (ra_cons (re_meth D_Lots_multiple_of (Nat.le_of_ble_eq_true rfl) (re_var (i := 0) rfl (by first | exact Or.inl rfl | exact Or.inr (Or.inl rfl) | exact Or.inr (Or.inr rfl))) (ra_cons (re_call D_together (Nat.le_of_ble_eq_true rfl) (by rfl) (ra_cons (re_var (i := 1) rfl (by first | exact Or.inl rfl | exact Or.inr (Or.inl rfl) | exact Or.inr (Or.inr rfl))) (ra_cons (re_var (i := 7) rfl (by first | exact Or.inl rfl | exact Or.inr (Or.inl rfl) | exact Or.inr (Or.inr rfl))) ra_nil))) ra_nil)) ra_nil))))
  (rb_one (rs_ret (re_rf (rf_dcomp (own := [("pair", 7), ("many", 8)]) (by dsimp only; decide +kernel) (ri_seq (re_var (i := 4) rfl (by first | exact Or.inl rfl | exact Or.inr (Or.inl rfl) | exact Or.inr (Or.inr rfl)))) (rg_t (.cons ⟨by rfl, by first | exact Or.inl rfl | exact Or.inr rfl, by first | exact Or.inl rfl | exact Or.inr (Or.inl rfl) | exact Or.inr (Or.inr rfl)⟩ (.cons ⟨by rfl, by first | exact Or.inl rfl | exact Or.inr rfl, by first | exact Or.inl rfl | exact Or.inr (Or.inl rfl) | exact Or.inr (Or.inr rfl)⟩ .nil))) (rts_one (rt_cmp o_gt (re_var (i := 8) rfl (by first | exact Or.inl rfl | exact Or.inr (Or.inl rfl) | exact Or.inr (Or.inr rfl))) re_int)) (re_var (i := 7) rfl (by first | exact Or.inl rfl | exact Or.inr (Or.inl rfl) | exact Or.inr (Or.inr rfl))) (re_call D_multiplied (Nat.le_of_ble_eq_true rfl) (by rfl) (ra_cons (re_tup (ra_cons (re_var (i := 8) rfl (by first | exact Or.inl rfl | exact Or.inr (Or.inl rfl) | exact Or.inr (Or.inr rfl))) (ra_cons re_int ra_nil))) (ra_cons (re_prop D_Lots_unit (Nat.le_of_ble_eq_true rfl) (re_var (i := 0) rfl (by first | exact Or.inl rfl | exact Or.inr (Or.inl rfl) | exact Or.inr (Or.inr rfl)))) ra_nil)))))))))))) hm b
  exact z
theorem R_pieces {G : Wo} (M : Mg G) (A : DefAt G s_pieces "pieces" ["lots", "pin"]) (D_check_place : DefOk G 11 "check_place" 2 m_check_place) (D_things_left : DefOk G 5 "things_left" 2 m_things_left) (D_pair_rows : DefOk G 6 "pair_rows" 2 m_pair_rows) (D_pieces_of_rows : DefOk G 4 "pieces_of_rows" 1 m_pieces_of_rows) : DefOk G 12 "pieces" 2 (fnOf 6 F_pieces) := by
  obtain ⟨fa, fd, Fd, hm, b⟩ := A.ex
  have z := def_ok (lv := 11) Fd sc_pieces (f := F_pieces) ((rb_cons (rs_expr (re_call D_check_place (Nat.le_of_ble_eq_true rfl) (by rfl) (ra_cons (re_var (i := 0) rfl (by first | exact Or.inl rfl | exact Or.inr (Or.inl rfl) | exact Or.inr (Or.inr rfl))) (ra_cons (re_var (i := 1) rfl (by first | exact Or.inl rfl | exact Or.inr (Or.inl rfl) | exact Or.inr (Or.inr rfl))) ra_nil))))
  (rb_cons (rs_set (i := 2) ⟨by rfl, by first | exact Or.inl rfl | exact Or.inr rfl, by first | exact Or.inl rfl | exact Or.inr (Or.inl rfl) | exact Or.inr (Or.inr rfl)⟩ (re_call D_things_left (Nat.le_of_ble_eq_true rfl) (by rfl) (ra_cons (re_var (i := 0) rfl (by first | exact Or.inl rfl | exact Or.inr (Or.inl rfl) | exact Or.inr (Or.inr rfl))) (ra_cons (re_var (i := 1) rfl (by first | exact Or.inl rfl | exact Or.inr (Or.inl rfl) | exact Or.inr (Or.inr rfl))) ra_nil))))
  (rb_cons (rs_set (i := 3) ⟨by rfl, by first | exact Or.inl rfl | exact Or.inr rfl, by first | exact Or.inl rfl | exact Or.inr (Or.inl rfl) | exact Or.inr (Or.inr rfl)⟩ (re_call D_pieces_of_rows (Nat.le_of_ble_eq_true rfl) (by rfl) (ra_cons (re_call D_pair_rows (Nat.le_of_ble_eq_true rfl) (by rfl) (ra_cons (re_var (i := 0) rfl (by first | exact Or.inl rfl | exact Or.inr (Or.inl rfl) | exact Or.inr (Or.inr rfl))) (ra_cons (re_var (i := 1) rfl (by first | exact Or.inl rfl | exact Or.inr (Or.inl rfl) | exact Or.inr (Or.inr rfl))) ra_nil))) ra_nil)))
  (rb_one (rs_ret (re_ct c_tuple3 (by rfl) M.n_tuple (by decide +kernel) (ra_cons (re_comp (own := [("piece", 4)]) (by dsimp only; decide +kernel) (ri_seq (re_var (i := 3) rfl (by first | exact Or.inl rfl | exact Or.inr (Or.inl rfl) | exact Or.inr (Or.inr rfl)))) (rg_n (i := 4) ⟨by rfl, by first | exact Or.inl rfl | exact Or.inr rfl, by first | exact Or.inl rfl | exact Or.inr (Or.inl rfl) | exact Or.inr (Or.inr rfl)⟩) rts_nil (re_ct c_tuple3 (by rfl) M.n_tuple (by decide +kernel) (ra_cons (re_comp (own := [("place", 5)]) (by dsimp only; decide +kernel) (ri_seq (re_var (i := 4) rfl (by first | exact Or.inl rfl | exact Or.inr (Or.inl rfl) | exact Or.inr (Or.inr rfl)))) (rg_n (i := 5) ⟨by rfl, by first | exact Or.inl rfl | exact Or.inr rfl, by first | exact Or.inl rfl | exact Or.inr (Or.inl rfl) | exact Or.inr (Or.inr rfl)⟩) rts_nil (re_ix (re_var (i := 2) rfl (by first | exact Or.inl rfl | exact Or.inr (Or.inl rfl) | exact Or.inr (Or.inr rfl))) (re_var (i := 5) rfl (by first | exact Or.inl rfl | exact Or.inr (Or.inl rfl) | exact Or.inr (Or.inr rfl))))) ra_nil))) ra_nil)))))))) hm b
  exact z
theorem R_check_within {G : Wo} (M : Mg G) (A : DefAt G s_check_within "check_within" ["value", "low", "high"]) (D_is_within : DefOk G 5 "is_within" 3 m_is_within) : DefOk G 6 "check_within" 3 (fnOf 3 F_check_within) := by
  obtain ⟨fa, fd, Fd, hm, b⟩ := A.ex
  have z := def_ok (lv := 5) Fd sc_check_within (f := F_check_within) ((rb_one (rs_if (rt_not (rt_val (re_call D_is_within (Nat.le_of_ble_eq_true rfl) (by rfl) (ra_cons (re_var (i := 0) rfl (by first | exact Or.inl rfl | exact Or.inr (Or.inl rfl) | exact Or.inr (Or.inr rfl))) (ra_cons (re_var (i := 1) rfl (by first | exact Or.inl rfl | exact Or.inr (Or.inl rfl) | exact Or.inr (Or.inr rfl))) (ra_cons (re_var (i := 2) rfl (by first | exact Or.inl rfl | exact Or.inr (Or.inl rfl) | exact Or.inr (Or.inr rfl))) ra_nil)))))) (rb_one (rs_raise (rm_mk M.k_InvalidNumber (Nat.le_of_ble_eq_true rfl) (by rfl) (ra_cons (re_var (i := 0) rfl (by first | exact Or.inl rfl | exact Or.inr (Or.inl rfl) | exact Or.inr (Or.inr rfl))) ra_nil)))) rb_nil))) hm b
  exact z
end Pv.K18
namespace Pv.K18
open PySem PySem.Spec PyProof.Rows L2 Pv
open Pg (oxB oxB_ok tl_VE tl_IE tl_KE tl_RE tl_OE tl_AE)
theorem R_is_integer {G : Wo} (M : Mg G) (A : DefAt G s_is_integer "is_integer" ["value"]) (D__is_whole : DefOk G 3 "_is_whole" 1 m__is_whole) : DefOk G 4 "is_integer" 1 (fnOf 1 F_is_integer) := by
  obtain ⟨fa, fd, Fd, hm, b⟩ := A.ex
  have z := def_ok (lv := 3) Fd sc_is_integer (f := F_is_integer) ((rb_one (rs_ret (re_and (re_call D__is_whole (Nat.le_of_ble_eq_true rfl) (by rfl) (ra_cons (re_var (i := 0) rfl (by first | exact Or.inl rfl | exact Or.inr (Or.inl rfl) | exact Or.inr (Or.inr rfl))) ra_nil)) (re_one (re_cmp o_lt (re_cb c_abs (by rfl) M.n_abs (by decide +kernel) (ra_cons (re_var (i := 0) rfl (by first | exact Or.inl rfl | exact Or.inr (Or.inl rfl) | exact Or.inr (Or.inr rfl))) ra_nil)) (re_gintE (by rfl) M.c_TOO_LONG))))))) hm b
  exact z
theorem R_is_number {G : Wo} (M : Mg G) (A : DefAt G s_is_number "is_number" ["value"]) (D_is_integer : DefOk G 4 "is_integer" 1 m_is_integer) (D_is_fraction : DefOk G 4 "is_fraction" 1 m_is_fraction) : DefOk G 5 "is_number" 1 (fnOf 1 F_is_number) := by
  obtain ⟨fa, fd, Fd, hm, b⟩ := A.ex
  have z := def_ok (lv := 4) Fd sc_is_number (f := F_is_number) ((rb_one (rs_ret (re_or (re_call D_is_integer (Nat.le_of_ble_eq_true rfl) (by rfl) (ra_cons (re_var (i := 0) rfl (by first | exact Or.inl rfl | exact Or.inr (Or.inl rfl) | exact Or.inr (Or.inr rfl))) ra_nil)) (re_one (re_call D_is_fraction (Nat.le_of_ble_eq_true rfl) (by rfl) (ra_cons (re_var (i := 0) rfl (by first | exact Or.inl rfl | exact Or.inr (Or.inl rfl) | exact Or.inr (Or.inr rfl))) ra_nil))))))) hm b
  exact z
theorem R_fraction {G : Wo} (M : Mg G) (A : DefAt G s_fraction "fraction" ["top", "bottom"]) (D__is_whole : DefOk G 3 "_is_whole" 1 m__is_whole) (D__reduced : DefOk G 3 "_reduced" 2 m__reduced) : DefOk G 4 "fraction" 2 (fnOf 2 F_fraction) := by
  obtain ⟨fa, fd, Fd, hm, b⟩ := A.ex
  have z := def_ok (lv := 3) Fd sc_fraction (f := F_fraction) ((rb_cons (rs_if (rt_not (rt_val (re_call D__is_whole (Nat.le_of_ble_eq_true rfl) (by rfl) (ra_cons (re_var (i := 0) rfl (by first | exact Or.inl rfl | exact Or.inr (Or.inl rfl) | exact Or.inr (Or.inr rfl))) ra_nil)))) (rb_one (rs_raise (rm_mk M.k_InvalidNumber (Nat.le_of_ble_eq_true rfl) (by rfl) (ra_cons (re_var (i := 0) rfl (by first | exact Or.inl rfl | exact Or.inr (Or.inl rfl) | exact Or.inr (Or.inr rfl))) ra_nil)))) rb_nil)
  (rb_cons (rs_if (rw_rt (rw_or (rt_not (rt_val (re_call D__is_whole (Nat.le_of_ble_eq_true rfl) (by rfl) (ra_cons (re_var (i := 1) rfl (by first | exact Or.inl rfl | exact Or.inr (Or.inl rfl) | exact Or.inr (Or.inr rfl))) ra_nil)))) (rw_or1 (rt_cmp o_eq (re_var (i := 1) rfl (by first | exact Or.inl rfl | exact Or.inr (Or.inl rfl) | exact Or.inr (Or.inr rfl))) re_int)))) (rb_one (rs_raise (rm_mk M.k_InvalidNumber (Nat.le_of_ble_eq_true rfl) (by rfl) (ra_cons (re_var (i := 1) rfl (by first | exact Or.inl rfl | exact Or.inr (Or.inl rfl) | exact Or.inr (Or.inr rfl))) ra_nil)))) rb_nil)
  (rb_one (rs_ret (re_call D__reduced (Nat.le_of_ble_eq_true rfl) (by rfl) (ra_cons (re_var (i := 0) rfl (by first | exact Or.inl rfl | exact Or.inr (Or.inl rfl) | exact Or.inr (Or.inr rfl))) (ra_cons (re_var (i := 1) rfl (by first | exact Or.inl rfl | exact Or.inr (Or.inl rfl) | exact Or.inr (Or.inr rfl))) ra_nil)))))))) hm b
  exact z
theorem R_is_pin {G : Wo} (M : Mg G) (A : DefAt G s_is_pin "is_pin" ["lots", "value"]) (D_check_lots : DefOk G 3 "check_lots" 1 m_check_lots) (D_are_things : DefOk G 7 "are_things" 1 m_are_things) (D_Lots_size : PropOk G 3 "Lots" "size" m_Lots_size) (D_Lots_multiple_of : MethOk G 3 "Lots" "multiple_of" 1 m_Lots_multiple_of) : DefOk G 8 "is_pin" 2 (fnOf 2 F_is_pin) := by
  obtain ⟨fa, fd, Fd, hm, b⟩ := A.ex
  have z := def_ok (lv := 7) Fd sc_is_pin (f := F_is_pin) ((rb_cons (rs_expr (re_call D_check_lots (Nat.le_of_ble_eq_true rfl) (by rfl) (ra_cons (re_var (i := 0) rfl (by first | exact Or.inl rfl | exact Or.inr (Or.inl rfl) | exact Or.inr (Or.inr rfl))) ra_nil)))
  (rb_one (rs_ret (re_and (re_call D_are_things (Nat.le_of_ble_eq_true rfl) (by rfl) (ra_cons (re_var (i := 1) rfl (by first | exact Or.inl rfl | exact Or.inr (Or.inl rfl) | exact Or.inr (Or.inr rfl))) ra_nil)) (re_and (re_cmp o_le (re_cb c_len (by rfl) M.n_len (by decide +kernel) (ra_cons (re_var (i := 1) rfl (by first | exact Or.inl rfl | exact Or.inr (Or.inl rfl) | exact Or.inr (Or.inr rfl))) ra_nil)) (re_prop D_Lots_size (Nat.le_of_ble_eq_true rfl) (re_var (i := 0) rfl (by first | exact Or.inl rfl | exact Or.inr (Or.inl rfl) | exact Or.inr (Or.inr rfl))))) (re_one (re_cmp o_gt (re_meth D_Lots_multiple_of (Nat.le_of_ble_eq_true rfl) (re_var (i := 0) rfl (by first | exact Or.inl rfl | exact Or.inr (Or.inl rfl) | exact Or.inr (Or.inr rfl))) (ra_cons (re_var (i := 1) rfl (by first | exact Or.inl rfl | exact Or.inr (Or.inl rfl) | exact Or.inr (Or.inr rfl))) ra_nil)) re_int)))))))) hm b
  exact z
theorem R_things_left {G : Wo} (M : Mg G) (A : DefAt G s_things_left "things_left" ["lots", "pin"]) (D_Lots_size : PropOk G 3 "Lots" "size" m_Lots_size) (D_Lots_things : PropOk G 3 "Lots" "things" m_Lots_things) (D_Lots_multiple_of : MethOk G 3 "Lots" "multiple_of" 1 m_Lots_multiple_of) (D_together : DefOk G 3 "together" 2 m_together) : DefOk G 5 "things_left" 2 (fnOf 4 F_things_left) := by
  obtain ⟨fa, fd, Fd, hm, b⟩ := A.ex
  have z := def_ok (lv := 4) Fd sc_things_left (f := F_things_left) ((rb_cons (rs_if (rt_cmp o_eq (re_cb c_len (by rfl) M.n_len (by decide +kernel) (ra_cons (re_var (i := 1) rfl (by first | exact Or.inl rfl | exact Or.inr (Or.inl rfl) | exact Or.inr (Or.inr rfl))) ra_nil)) (re_prop D_Lots_size (Nat.le_of_ble_eq_true rfl) (re_var (i := 0) rfl (by first | exact Or.inl rfl | exact Or.inr (Or.inl rfl) | exact Or.inr (Or.inr rfl))))) (rb_one (rs_ret (re_tup ra_nil))) rb_nil)
  (rb_cons (rs_owncomp (i := 2) rfl rfl (fun env h => by cases env; cases h; rfl) (own := [("thing", 3)]) (by dsimp only; decide +kernel) (ri_seq (re_prop D_Lots_things (Nat.le_of_ble_eq_true rfl) (re_var (i := 0) rfl (by first | exact Or.inl rfl | exact Or.inr (Or.inl rfl) | exact Or.inr (Or.inr rfl))))) (rg_n (i := 3) ⟨by rfl, by first | exact Or.inl rfl | exact Or.inr rfl, by first | exact Or.inl rfl | exact Or.inr (Or.inl rfl) | exact Or.inr (Or.inr rfl)⟩) (rts_one (rt_rc (rc_in true (re_var (i := 3) rfl (by first | exact Or.inl rfl | exact Or.inr (Or.inl rfl) | exact Or.inr (Or.inr rfl))) (re_var (i := 1) rfl (by first | exact Or.inl rfl | exact Or.inr (Or.inl rfl) | exact Or.inr (Or.inr rfl)))))) (re_var (i := 3) rfl (by first | exact Or.inl rfl | exact Or.inr (Or.inl rfl) | exact Or.inr (Or.inr rfl))))
  (rb_one (rs_ret (re_ct c_tuple3 (by rfl) M.n_tuple (by decide +kernel) (ra_cons (re_comp (own := [("thing", 3)]) (by dsimp only; decide +kernel) (ri_seq (re_var (i := 2) rfl (by first | exact Or.inl rfl | exact Or.inr (Or.inl rfl) | exact Or.inr (Or.inr rfl)))) (rg_n (i := 3) ⟨by rfl, by first | exact Or.inl rfl | exact Or.inr rfl, by first | exact Or.inl rfl | exact Or.inr (Or.inl rfl) | exact Or.inr (Or.inr rfl)⟩) (rts_one (rt_cmp o_gt (re_meth D_Lots_multiple_of (Nat.le_of_ble_eq_true rfl) (re_var (i := 0) rfl (by first | exact Or.inl rfl | exact Or.inr (Or.inl rfl) | exact Or.inr (Or.inr rfl))) (ra_cons (re_call D_together (Nat.le_of_ble_eq_true rfl) (by rfl) (ra_cons (re_var (i := 1) rfl (by first | exact Or.inl rfl | exact Or.inr (Or.inl rfl) | exact Or.inr (Or.inr rfl))) (ra_cons (re_tup (ra_cons (re_var (i := 3) rfl (by first | exact Or.inl rfl | exact Or.inr (Or.inl rfl) | exact Or.inr (Or.inr rfl))) ra_nil)) ra_nil))) ra_nil)) re_int)) (re_var (i := 3) rfl (by first | exact Or.inl rfl | exact Or.inr (Or.inl rfl) | exact Or.inr (Or.inr rfl)))) ra_nil))))))) hm b
  exact z
theorem R_pair_rows {G : Wo} (M : Mg G) (A : DefAt G s_pair_rows "pair_rows" ["lots", "pin"]) (D_things_left : DefOk G 5 "things_left" 2 m_things_left) (D_Lots_multiple_of : MethOk G 3 "Lots" "multiple_of" 1 m_Lots_multiple_of) (D_together : DefOk G 3 "together" 2 m_together) : DefOk G 6 "pair_rows" 2 (fnOf 5 F_pair_rows) := by
  obtain ⟨fa, fd, Fd, hm, b⟩ := A.ex
  have z := def_ok (lv := 5) Fd sc_pair_rows (f := F_pair_rows) ((rb_cons (rs_set (i := 2) ⟨by rfl, by first | exact Or.inl rfl | exact Or.inr rfl, by first | exact Or.inl rfl | exact Or.inr (Or.inl rfl) | exact Or.inr (Or.inr rfl)⟩ (re_call D_things_left (Nat.le_of_ble_eq_true rfl) (by rfl) (ra_cons (re_var (i := 0) rfl (by first | exact Or.inl rfl | exact Or.inr (Or.inl rfl) | exact Or.inr (Or.inr rfl))) (ra_cons (re_var (i := 1) rfl (by first | exact Or.inl rfl | exact Or.inr (Or.inl rfl) | exact Or.inr (Or.inr rfl))) ra_nil))))
  (rb_one (rs_ret (re_comp (own := [("thing", 3)]) (by dsimp only; decide +kernel) (ri_seq (re_var (i := 2) rfl (by first | exact Or.inl rfl | exact Or.inr (Or.inl rfl) | exact Or.inr (Or.inr rfl)))) (rg_n (i := 3) ⟨by rfl, by first | exact Or.inl rfl | exact Or.inr rfl, by first | exact Or.inl rfl | exact Or.inr (Or.inl rfl) | exact Or.inr (Or.inr rfl)⟩) rts_nil (re_comp (own := [("other", 4)]) (by dsimp only; decide +kernel) (ri_seq (re_var (i := 2) rfl (by first | exact Or.inl rfl | exact Or.inr (Or.inl rfl) | exact Or.inr (Or.inr rfl)))) (rg_n (i := 4) ⟨by rfl, by first | exact Or.inl rfl | exact Or.inr rfl, by first | exact Or.inl rfl | exact Or.inr (Or.inl rfl) | exact Or.inr (Or.inr rfl)⟩) rts_nil (re_if (rt_cmp o_eq (re_var (i := 3) rfl (by first | exact Or.inl rfl | exact Or.inr (Or.inl rfl) | exact Or.inr (Or.inr rfl))) (re_var (i := 4) rfl (by first | exact Or.inl rfl | exact Or.inr (Or.inl rfl) | exact Or.inr (Or.inr rfl)))) re_int (re_meth D_Lots_multiple_of (Nat.le_of_ble_eq_true rfl) (re_var (i := 0) rfl (by first | exact Or.inl rfl | exact Or.inr (Or.inl rfl) | exact Or.inr (Or.inr rfl))) (ra_cons (re_call D_together (Nat.le_of_ble_eq_true rfl) (by rfl) (ra_cons (re_var (i := 1) rfl (by first | exact Or.inl rfl | exact Or.inr (Or.inl rfl) | exact Or.inr (Or.inr rfl))) (ra_cons (re_tup (ra_cons (re_var (i := 3) rfl (by first | exact Or.inl rfl | exact Or.inr (Or.inl rfl) | exact Or.inr (Or.inr rfl))) (ra_cons (re_var (i := 4) rfl (by first | exact Or.inl rfl | exact Or.inr (Or.inl rfl) | exact Or.inr (Or.inr rfl))) ra_nil))) ra_nil))) ra_nil))))))))) hm b
  exact z
theorem R_hangs_together {G : Wo} (M : Mg G) (A : DefAt G s_hangs_together "hangs_together" ["lots", "pin"]) (D_pieces : DefOk G 12 "pieces" 2 m_pieces) : DefOk G 13 "hangs_together" 2 (fnOf 2 F_hangs_together) := by
  obtain ⟨fa, fd, Fd, hm, b⟩ := A.ex
  have z := def_ok (lv := 12) Fd sc_hangs_together (f := F_hangs_together) ((rb_one (rs_ret (re_cmp o_eq (re_cb c_len (by rfl) M.n_len (by decide +kernel) (ra_cons (re_call D_pieces (Nat.le_of_ble_eq_true rfl) (by rfl) (ra_cons (re_var (i := 0) rfl (by first | exact Or.inl rfl | exact Or.inr (Or.inl rfl) | exact Or.inr (Or.inr rfl))) (ra_cons (re_var (i := 1) rfl (by first | exact Or.inl rfl | exact Or.inr (Or.inl rfl) | exact Or.inr (Or.inr rfl))) ra_nil))) ra_nil)) re_int)))) hm b
  exact z
theorem R_Lots_all_of {G : Wo} (M : Mg G) (A : CMetAt G s_Lots_all_of "Lots" "all_of" "Lots.all_of" ["cls", "things", "size"]) (D_check_within : DefOk G 6 "check_within" 3 m_check_within) (D_Lots___init__ : MakeOk G 11 "Lots" 1 m_Lots___init__) (D_parts_of : DefOk G 3 "parts_of" 1 m_parts_of) : CMetOk G 13 "Lots" "all_of" 2 (fnOf 4 F_Lots_all_of) := by
  obtain ⟨c, p, f, mc, fd, hm, cr, me, Fd, b⟩ := A.ex
  have z := def_fn (lv := 12) Fd sc_Lots_all_of (f := F_Lots_all_of) ((rb_cons (rs_expr (re_call D_check_within (Nat.le_of_ble_eq_true rfl) (by rfl) (ra_cons (re_var (i := 1) rfl (by first | exact Or.inl rfl | exact Or.inr (Or.inl rfl) | exact Or.inr (Or.inr rfl))) (ra_cons re_int (ra_cons (re_bin o_add (re_gintE (by rfl) M.cMAX_THING) re_int) ra_nil)))))
  (rb_cons (rs_expr (re_call D_check_within (Nat.le_of_ble_eq_true rfl) (by rfl) (ra_cons (re_var (i := 2) rfl (by first | exact Or.inl rfl | exact Or.inr (Or.inl rfl) | exact Or.inr (Or.inr rfl))) (ra_cons re_int (ra_cons (re_gintE (by rfl) M.cMAX_SIZE) ra_nil)))))
  (rb_cons (rs_if (rt_cmp o_lt (re_var (i := 1) rfl (by first | exact Or.inl rfl | exact Or.inr (Or.inl rfl) | exact Or.inr (Or.inr rfl))) (re_var (i := 2) rfl (by first | exact Or.inl rfl | exact Or.inr (Or.inl rfl) | exact Or.inr (Or.inr rfl)))) (rb_one (rs_raise (rm_mk0 M.k_InvalidOperation (by rfl)))) rb_nil)
  (rb_cons (rs_if (rt_cmp o_gt (re_cf c_comb (by rfl) M.n_comb (ra_cons (re_var (i := 1) rfl (by first | exact Or.inl rfl | exact Or.inr (Or.inl rfl) | exact Or.inr (Or.inr rfl))) (ra_cons (re_var (i := 2) rfl (by first | exact Or.inl rfl | exact Or.inr (Or.inl rfl) | exact Or.inr (Or.inr rfl))) ra_nil))) (re_gintE (by rfl) M.cMAX_LOTS)) (rb_one (rs_raise (rm_mk M.k_TooMany (Nat.le_of_ble_eq_true rfl) (by rfl) (ra_cons (re_gintE (by rfl) M.cMAX_LOTS) ra_nil)))) rb_nil)
  (rb_one (rs_ret (re_rf (rf_makev D_Lots___init__ (Nat.le_of_ble_eq_true rfl) rfl (by first | exact Or.inl rfl | exact Or.inr (Or.inl rfl) | exact Or.inr (Or.inr rfl)) (ra_cons (re_rf (rf_dcomp (own := [("lot", 3)]) (by dsimp only; decide +kernel) (ri_seq (re_call D_parts_of (Nat.le_of_ble_eq_true rfl) (by rfl) (ra_cons (re_ct c_tuple3 (by rfl) M.n_tuple (by decide +kernel) (ra_cons (re_ct c_rgV (by rfl) M.n_range (by decide +kernel) (ra_cons (re_var (i := 1) rfl (by first | exact Or.inl rfl | exact Or.inr (Or.inl rfl) | exact Or.inr (Or.inr rfl))) ra_nil)) ra_nil)) ra_nil))) (rg_n (i := 3) ⟨by rfl, by first | exact Or.inl rfl | exact Or.inr rfl, by first | exact Or.inl rfl | exact Or.inr (Or.inl rfl) | exact Or.inr (Or.inr rfl)⟩) (rts_one (rt_cmp o_eq (re_cb c_len (by rfl) M.n_len (by decide +kernel) (ra_cons (re_var (i := 3) rfl (by first | exact Or.inl rfl | exact Or.inr (Or.inl rfl) | exact Or.inr (Or.inr rfl))) ra_nil)) (re_var (i := 2) rfl (by first | exact Or.inl rfl | exact Or.inr (Or.inl rfl) | exact Or.inr (Or.inr rfl))))) (re_var (i := 3) rfl (by first | exact Or.inl rfl | exact Or.inr (Or.inl rfl) | exact Or.inr (Or.inr rfl))) re_int)) ra_nil))))))))))
  exact ⟨c, p, f, mc, fd, ["cls", "things", "size"], hm, cr, me, rfl, z, b⟩
end Pv.K18
namespace Pv.K18
open PySem PySem.Spec PyProof.Rows L2 Pv
open Pg (oxB oxB_ok tl_VE tl_IE tl_KE tl_RE tl_OE tl_AE)
theorem R_is_within {G : Wo} (M : Mg G) (A : DefAt G s_is_within "is_within" ["value", "low", "high"]) (D_is_integer : DefOk G 4 "is_integer" 1 m_is_integer) : DefOk G 5 "is_within" 3 (fnOf 3 F_is_within) := by
  obtain ⟨fa, fd, Fd, hm, b⟩ := A.ex
  have z := def_ok (lv := 4) Fd sc_is_within (f := F_is_within) ((rb_one (rs_ret (re_and (re_call D_is_integer (Nat.le_of_ble_eq_true rfl) (by rfl) (ra_cons (re_var (i := 0) rfl (by first | exact Or.inl rfl | exact Or.inr (Or.inl rfl) | exact Or.inr (Or.inr rfl))) ra_nil)) (re_one (re_chain o_le o_le (re_var (i := 1) rfl (by first | exact Or.inl rfl | exact Or.inr (Or.inl rfl) | exact Or.inr (Or.inr rfl))) (re_var (i := 0) rfl (by first | exact Or.inl rfl | exact Or.inr (Or.inl rfl) | exact Or.inr (Or.inr rfl))) (re_var (i := 2) rfl (by first | exact Or.inl rfl | exact Or.inr (Or.inl rfl) | exact Or.inr (Or.inr rfl))))))))) hm b
  exact z
theorem R_pair_of {G : Wo} (M : Mg G) (A : DefAt G s_pair_of "pair_of" ["number"]) : DefOk G 3 "pair_of" 1 (fnOf 1 F_pair_of) := by
  obtain ⟨fa, fd, Fd, hm, b⟩ := A.ex
  have z := def_ok (lv := 2) Fd sc_pair_of (f := F_pair_of) ((rb_cons (rs_if (rt_val (re_cb c_isi (by rfl) M.n_isinstance (by decide +kernel) (ra_cons (re_var (i := 0) rfl (by first | exact Or.inl rfl | exact Or.inr (Or.inl rfl) | exact Or.inr (Or.inr rfl))) (ra_cons (re_bty (by rfl) M.n_tuple (by decide +kernel)) ra_nil)))) (rb_one (rs_ret (re_var (i := 0) rfl (by first | exact Or.inl rfl | exact Or.inr (Or.inl rfl) | exact Or.inr (Or.inr rfl))))) rb_nil)
  (rb_one (rs_ret (re_tup (ra_cons (re_var (i := 0) rfl (by first | exact Or.inl rfl | exact Or.inr (Or.inl rfl) | exact Or.inr (Or.inr rfl))) (ra_cons re_int ra_nil))))))) hm b
  exact z
theorem R_parts_of {G : Wo} (M : Mg G) (A : DefAt G s_parts_of "parts_of" ["things"]) : DefOk G 3 "parts_of" 1 (fnOf 4 F_parts_of) := by
  obtain ⟨fa, fd, Fd, hm, b⟩ := A.ex
  have z := def_ok (lv := 2) Fd sc_parts_of (f := F_parts_of) ((rb_cons (rs_set (i := 1) ⟨by rfl, by first | exact Or.inl rfl | exact Or.inr rfl, by first | exact Or.inl rfl | exact Or.inr (Or.inl rfl) | exact Or.inr (Or.inr rfl)⟩ (re_lst (ra_cons (re_tup ra_nil) ra_nil)))
  (rb_cons (rs_for (ri_seq (re_var (i := 0) rfl (by first | exact Or.inl rfl | exact Or.inr (Or.inl rfl) | exact Or.inr (Or.inr rfl)))) (rg_n (i := 2) ⟨by rfl, by first | exact Or.inl rfl | exact Or.inr rfl, by first | exact Or.inl rfl | exact Or.inr (Or.inl rfl) | exact Or.inr (Or.inr rfl)⟩) (rb_one (rs_set (i := 1) ⟨by rfl, by first | exact Or.inl rfl | exact Or.inr rfl, by first | exact Or.inl rfl | exact Or.inr (Or.inl rfl) | exact Or.inr (Or.inr rfl)⟩ (re_bin o_add (re_var (i := 1) rfl (by first | exact Or.inl rfl | exact Or.inr (Or.inl rfl) | exact Or.inr (Or.inr rfl))) (re_comp (own := [("part", 3)]) (by dsimp only; decide +kernel) (ri_seq (re_var (i := 1) rfl (by first | exact Or.inl rfl | exact Or.inr (Or.inl rfl) | exact Or.inr (Or.inr rfl)))) (rg_n (i := 3) ⟨by rfl, by first | exact Or.inl rfl | exact Or.inr rfl, by first | exact Or.inl rfl | exact Or.inr (Or.inl rfl) | exact Or.inr (Or.inr rfl)⟩) rts_nil (re_bin o_add (re_var (i := 3) rfl (by first | exact Or.inl rfl | exact Or.inr (Or.inl rfl) | exact Or.inr (Or.inr rfl))) (re_tup (ra_cons (re_var (i := 2) rfl (by first | exact Or.inl rfl | exact Or.inr (Or.inl rfl) | exact Or.inr (Or.inr rfl))) ra_nil))))))))
  (rb_one (rs_ret (re_var (i := 1) rfl (by first | exact Or.inl rfl | exact Or.inr (Or.inl rfl) | exact Or.inr (Or.inr rfl)))))))) hm b
  exact z
theorem R_check_pin {G : Wo} (M : Mg G) (A : DefAt G s_check_pin "check_pin" ["lots", "pin"]) (D_is_pin : DefOk G 8 "is_pin" 2 m_is_pin) : DefOk G 9 "check_pin" 2 (fnOf 2 F_check_pin) := by
  obtain ⟨fa, fd, Fd, hm, b⟩ := A.ex
  have z := def_ok (lv := 8) Fd sc_check_pin (f := F_check_pin) ((rb_one (rs_if (rt_not (rt_val (re_call D_is_pin (Nat.le_of_ble_eq_true rfl) (by rfl) (ra_cons (re_var (i := 0) rfl (by first | exact Or.inl rfl | exact Or.inr (Or.inl rfl) | exact Or.inr (Or.inr rfl))) (ra_cons (re_var (i := 1) rfl (by first | exact Or.inl rfl | exact Or.inr (Or.inl rfl) | exact Or.inr (Or.inr rfl))) ra_nil))))) (rb_one (rs_raise (rm_mk0 M.k_InvalidPin (by rfl)))) rb_nil))) hm b
  exact z
theorem R_link_things {G : Wo} (M : Mg G) (A : DefAt G s_link_things "link_things" ["lots", "pin"]) (D_check_place : DefOk G 11 "check_place" 2 m_check_place) (D_things_left : DefOk G 5 "things_left" 2 m_things_left) : DefOk G 12 "link_things" 2 (fnOf 2 F_link_things) := by
  obtain ⟨fa, fd, Fd, hm, b⟩ := A.ex
  have z := def_ok (lv := 11) Fd sc_link_things (f := F_link_things) ((rb_cons (rs_expr (re_call D_check_place (Nat.le_of_ble_eq_true rfl) (by rfl) (ra_cons (re_var (i := 0) rfl (by first | exact Or.inl rfl | exact Or.inr (Or.inl rfl) | exact Or.inr (Or.inr rfl))) (ra_cons (re_var (i := 1) rfl (by first | exact Or.inl rfl | exact Or.inr (Or.inl rfl) | exact Or.inr (Or.inr rfl))) ra_nil))))
  (rb_one (rs_ret (re_call D_things_left (Nat.le_of_ble_eq_true rfl) (by rfl) (ra_cons (re_var (i := 0) rfl (by first | exact Or.inl rfl | exact Or.inr (Or.inl rfl) | exact Or.inr (Or.inr rfl))) (ra_cons (re_var (i := 1) rfl (by first | exact Or.inl rfl | exact Or.inr (Or.inl rfl) | exact Or.inr (Or.inr rfl))) ra_nil))))))) hm b
  exact z
theorem R_masses {G : Wo} (M : Mg G) (A : DefAt G s_masses "masses" ["lots", "pin"]) (D_check_place : DefOk G 11 "check_place" 2 m_check_place) (D_pair_rows : DefOk G 6 "pair_rows" 2 m_pair_rows) (D_things_left : DefOk G 5 "things_left" 2 m_things_left) (D_Lots_unit : PropOk G 3 "Lots" "unit" m_Lots_unit) (D_multiplied : DefOk G 8 "multiplied" 2 m_multiplied) : DefOk G 12 "masses" 2 (fnOf 5 F_masses) := by
  obtain ⟨fa, fd, Fd, hm, b⟩ := A.ex
  have z := def_ok (lv := 11) Fd sc_masses (f := F_masses) ((rb_cons (rs_expr (re_call D_check_place (Nat.le_of_ble_eq_true rfl) (by rfl) (ra_cons (re_var (i := 0) rfl (by first | exact Or.inl rfl | exact Or.inr (Or.inl rfl) | exact Or.inr (Or.inr rfl))) (ra_cons (re_var (i := 1) rfl (by first | exact Or.inl rfl | exact Or.inr (Or.inl rfl) | exact Or.inr (Or.inr rfl))) ra_nil))))
  (rb_cons (rs_set (i := 2) ⟨by rfl, by first | exact Or.inl rfl | exact Or.inr rfl, by first | exact Or.inl rfl | exact Or.inr (Or.inl rfl) | exact Or.inr (Or.inr rfl)⟩ (re_call D_pair_rows (Nat.le_of_ble_eq_true rfl) (by rfl) (ra_cons (re_var (i := 0) rfl (by first | exact Or.inl rfl | exact Or.inr (Or.inl rfl) | exact Or.inr (Or.inr rfl))) (ra_cons (re_var (i := 1) rfl (by first | exact Or.inl rfl | exact Or.inr (Or.inl rfl) | exact Or.inr (Or.inr rfl))) ra_nil))))
  (rb_one (rs_ret (re_rf (rf_dcomp (own := [("thing", 3), ("row", 4)]) (by dsimp only; decide +kernel) (ri_zip2 (by rfl) M.n_zip (ra_cons (re_call D_things_left (Nat.le_of_ble_eq_true rfl) (by rfl) (ra_cons (re_var (i := 0) rfl (by first | exact Or.inl rfl | exact Or.inr (Or.inl rfl) | exact Or.inr (Or.inr rfl))) (ra_cons (re_var (i := 1) rfl (by first | exact Or.inl rfl | exact Or.inr (Or.inl rfl) | exact Or.inr (Or.inr rfl))) ra_nil))) (ra_cons (re_var (i := 2) rfl (by first | exact Or.inl rfl | exact Or.inr (Or.inl rfl) | exact Or.inr (Or.inr rfl))) ra_nil))) (rg_t (.cons ⟨by rfl, by first | exact Or.inl rfl | exact Or.inr rfl, by first | exact Or.inl rfl | exact Or.inr (Or.inl rfl) | exact Or.inr (Or.inr rfl)⟩ (.cons ⟨by rfl, by first | exact Or.inl rfl | exact Or.inr rfl, by first | exact Or.inl rfl | exact Or.inr (Or.inl rfl) | exact Or.inr (Or.inr rfl)⟩ .nil))) rts_nil (re_var (i := 3) rfl (by first | exact Or.inl rfl | exact Or.inr (Or.inl rfl) | exact Or.inr (Or.inr rfl))) (re_call D_multiplied (Nat.le_of_ble_eq_true rfl) (by rfl) (ra_cons (re_tup (ra_cons (re_cb c_sum (by rfl) M.n_sum (by decide +kernel) (ra_cons (re_var (i := 4) rfl (by first | exact Or.inl rfl | exact Or.inr (Or.inl rfl) | exact Or.inr (Or.inr rfl))) ra_nil)) (ra_cons re_int ra_nil))) (ra_cons (re_prop D_Lots_unit (Nat.le_of_ble_eq_true rfl) (re_var (i := 0) rfl (by first | exact Or.inl rfl | exact Or.inr (Or.inl rfl) | exact Or.inr (Or.inr rfl)))) ra_nil)))))))))) hm b
  exact z
theorem R_parting {G : Wo} (M : Mg G) (A : DefAt G s_parting "parting" ["lots", "pin"]) (D_pieces : DefOk G 12 "pieces" 2 m_pieces) : DefOk G 13 "parting" 2 (fnOf 3 F_parting) := by
  obtain ⟨fa, fd, Fd, hm, b⟩ := A.ex
  have z := def_ok (lv := 12) Fd sc_parting (f := F_parting) ((rb_cons (rs_set (i := 2) ⟨by rfl, by first | exact Or.inl rfl | exact Or.inr rfl, by first | exact Or.inl rfl | exact Or.inr (Or.inl rfl) | exact Or.inr (Or.inr rfl)⟩ (re_call D_pieces (Nat.le_of_ble_eq_true rfl) (by rfl) (ra_cons (re_var (i := 0) rfl (by first | exact Or.inl rfl | exact Or.inr (Or.inl rfl) | exact Or.inr (Or.inr rfl))) (ra_cons (re_var (i := 1) rfl (by first | exact Or.inl rfl | exact Or.inr (Or.inl rfl) | exact Or.inr (Or.inr rfl))) ra_nil))))
  (rb_one (rs_ret (re_if (rt_cmp o_eq (re_cb c_len (by rfl) M.n_len (by decide +kernel) (ra_cons (re_var (i := 2) rfl (by first | exact Or.inl rfl | exact Or.inr (Or.inl rfl) | exact Or.inr (Or.inr rfl))) ra_nil)) re_int) re_non (re_ix (re_var (i := 2) rfl (by first | exact Or.inl rfl | exact Or.inr (Or.inl rfl) | exact Or.inr (Or.inr rfl))) re_int)))))) hm b
  exact z
end Pv.K18
namespace Pv.K18
open PySem PySem.Spec PyProof.Rows L2 Pv
open Pg (oxB oxB_ok tl_VE tl_IE tl_KE tl_RE tl_OE tl_AE)
theorem R_is_thing {G : Wo} (M : Mg G) (A : DefAt G s_is_thing "is_thing" ["value"]) (D_is_within : DefOk G 5 "is_within" 3 m_is_within) : DefOk G 6 "is_thing" 1 (fnOf 1 F_is_thing) := by
  obtain ⟨fa, fd, Fd, hm, b⟩ := A.ex
  have z := def_ok (lv := 5) Fd sc_is_thing (f := F_is_thing) ((rb_one (rs_ret (re_call D_is_within (Nat.le_of_ble_eq_true rfl) (by rfl) (ra_cons (re_var (i := 0) rfl (by first | exact Or.inl rfl | exact Or.inr (Or.inl rfl) | exact Or.inr (Or.inr rfl))) (ra_cons re_int (ra_cons (re_gintE (by rfl) M.cMAX_THING) ra_nil))))))) hm b
  exact z
theorem R_is_above_0 {G : Wo} (M : Mg G) (A : DefAt G s_is_above_0 "is_above_0" ["value"]) (D_is_number : DefOk G 5 "is_number" 1 m_is_number) (D_pair_of : DefOk G 3 "pair_of" 1 m_pair_of) : DefOk G 6 "is_above_0" 1 (fnOf 1 F_is_above_0) := by
  obtain ⟨fa, fd, Fd, hm, b⟩ := A.ex
  have z := def_ok (lv := 5) Fd sc_is_above_0 (f := F_is_above_0) ((rb_one (rs_ret (re_and (re_call D_is_number (Nat.le_of_ble_eq_true rfl) (by rfl) (ra_cons (re_var (i := 0) rfl (by first | exact Or.inl rfl | exact Or.inr (Or.inl rfl) | exact Or.inr (Or.inr rfl))) ra_nil)) (re_one (re_cmp o_gt (re_ix (re_call D_pair_of (Nat.le_of_ble_eq_true rfl) (by rfl) (ra_cons (re_var (i := 0) rfl (by first | exact Or.inl rfl | exact Or.inr (Or.inl rfl) | exact Or.inr (Or.inr rfl))) ra_nil)) re_int) re_int)))))) hm b
  exact z
theorem R__pin_sums {G : Wo} (M : Mg G) (A : DefAt G s__pin_sums "_pin_sums" ["lots", "multiples"]) (D_parts_of : DefOk G 3 "parts_of" 1 m_parts_of) : DefOk G 4 "_pin_sums" 2 (fnOf 9 F__pin_sums) := by
  obtain ⟨fa, fd, Fd, hm, b⟩ := A.ex
  have z := def_ok (lv := 3) Fd sc__pin_sums (f := F__pin_sums) ((rb_cons (rs_own (i := 2) ⟨by rfl, by first | exact Or.inl rfl | exact Or.inr rfl, by first | exact Or.inl rfl | exact Or.inr (Or.inl rfl) | exact Or.inr (Or.inr rfl)⟩ rf_dic0)
  (rb_cons (rs_for (ri_zip2 (by rfl) M.n_zip (ra_cons (re_var (i := 0) rfl (by first | exact Or.inl rfl | exact Or.inr (Or.inl rfl) | exact Or.inr (Or.inr rfl))) (ra_cons (re_var (i := 1) rfl (by first | exact Or.inl rfl | exact Or.inr (Or.inl rfl) | exact Or.inr (Or.inr rfl))) ra_nil))) (rg_t (.cons ⟨by rfl, by first | exact Or.inl rfl | exact Or.inr rfl, by first | exact Or.inl rfl | exact Or.inr (Or.inl rfl) | exact Or.inr (Or.inr rfl)⟩ (.cons ⟨by rfl, by first | exact Or.inl rfl | exact Or.inr rfl, by first | exact Or.inl rfl | exact Or.inr (Or.inl rfl) | exact Or.inr (Or.inr rfl)⟩ .nil))) (rb_one (rs_for (ri_seq (re_call D_parts_of (Nat.le_of_ble_eq_true rfl) (by rfl) (ra_cons (re_var (i := 3) rfl (by first | exact Or.inl rfl | exact Or.inr (Or.inl rfl) | exact Or.inr (Or.inr rfl))) ra_nil))) (rg_n (i := 5) ⟨by rfl, by first | exact Or.inl rfl | exact Or.inr rfl, by first | exact Or.inl rfl | exact Or.inr (Or.inl rfl) | exact Or.inr (Or.inr rfl)⟩) (rb_one (rs_seti (i := 2) rfl (by first | exact Or.inl rfl | exact Or.inr (Or.inl rfl) | exact Or.inr (Or.inr rfl)) (re_bin o_add (re_get2N (i := 2) rfl (by first | exact Or.inl rfl | exact Or.inr (Or.inl rfl) | exact Or.inr (Or.inr rfl)) (re_var (i := 5) rfl (by first | exact Or.inl rfl | exact Or.inr (Or.inl rfl) | exact Or.inr (Or.inr rfl))) re_int) (re_var (i := 4) rfl (by first | exact Or.inl rfl | exact Or.inr (Or.inl rfl) | exact Or.inr (Or.inr rfl)))) (re_var (i := 5) rfl (by first | exact Or.inl rfl | exact Or.inr (Or.inl rfl) | exact Or.inr (Or.inr rfl))))))))
  (rb_cons (rs_set (i := 6) ⟨by rfl, by first | exact Or.inl rfl | exact Or.inr rfl, by first | exact Or.inl rfl | exact Or.inr (Or.inl rfl) | exact Or.inr (Or.inr rfl)⟩ (re_cb c_sorted2 (by rfl) M.n_sorted (by decide +kernel) (ra_cons (re_var (i := 2) rfl (by first | exact Or.inl rfl | exact Or.inr (Or.inl rfl) | exact Or.inr (Or.inr rfl))) ra_nil)))
  (rb_one (rs_ret (re_comp (own := [("size", 7)]) (by dsimp only; decide +kernel) (ri_rng1 (by rfl) M.n_range (ra_cons (re_bin o_add (re_cb c_len (by rfl) M.n_len (by decide +kernel) (ra_cons (re_ix (re_var (i := 0) rfl (by first | exact Or.inl rfl | exact Or.inr (Or.inl rfl) | exact Or.inr (Or.inr rfl))) re_int) ra_nil)) re_int) ra_nil)) (rg_n (i := 7) ⟨by rfl, by first | exact Or.inl rfl | exact Or.inr rfl, by first | exact Or.inl rfl | exact Or.inr (Or.inl rfl) | exact Or.inr (Or.inr rfl)⟩) rts_nil (re_rf (rf_dcomp (own := [("pin", 8)]) (by dsimp only; decide +kernel) (ri_seq (re_var (i := 6) rfl (by first | exact Or.inl rfl | exact Or.inr (Or.inl rfl) | exact Or.inr (Or.inr rfl)))) (rg_n (i := 8) ⟨by rfl, by first | exact Or.inl rfl | exact Or.inr rfl, by first | exact Or.inl rfl | exact Or.inr (Or.inl rfl) | exact Or.inr (Or.inr rfl)⟩) (rts_one (rt_cmp o_eq (re_cb c_len (by rfl) M.n_len (by decide +kernel) (ra_cons (re_var (i := 8) rfl (by first | exact Or.inl rfl | exact Or.inr (Or.inl rfl) | exact Or.inr (Or.inr rfl))) ra_nil)) (re_var (i := 7) rfl (by first | exact Or.inl rfl | exact Or.inr (Or.inl rfl) | exact Or.inr (Or.inr rfl))))) (re_var (i := 8) rfl (by first | exact Or.inl rfl | exact Or.inr (Or.inl rfl) | exact Or.inr (Or.inr rfl))) (re_ixN (i := 2) rfl (by first | exact Or.inl rfl | exact Or.inr (Or.inl rfl) | exact Or.inr (Or.inr rfl)) (re_var (i := 8) rfl (by first | exact Or.inl rfl | exact Or.inr (Or.inl rfl) | exact Or.inr (Or.inr rfl))))))))))))) hm b
  exact z
theorem R_check_near {G : Wo} (M : Mg G) (A : DefAt G s_check_near "check_near" ["lots", "pin"]) (D_check_lots : DefOk G 3 "check_lots" 1 m_check_lots) (D_check_pin : DefOk G 9 "check_pin" 2 m_check_pin) : DefOk G 10 "check_near" 2 (fnOf 2 F_check_near) := by
  obtain ⟨fa, fd, Fd, hm, b⟩ := A.ex
  have z := def_ok (lv := 9) Fd sc_check_near (f := F_check_near) ((rb_cons (rs_expr (re_call D_check_lots (Nat.le_of_ble_eq_true rfl) (by rfl) (ra_cons (re_var (i := 0) rfl (by first | exact Or.inl rfl | exact Or.inr (Or.inl rfl) | exact Or.inr (Or.inr rfl))) ra_nil)))
  (rb_one (rs_expr (re_call D_check_pin (Nat.le_of_ble_eq_true rfl) (by rfl) (ra_cons (re_var (i := 0) rfl (by first | exact Or.inl rfl | exact Or.inr (Or.inl rfl) | exact Or.inr (Or.inr rfl))) (ra_cons (re_var (i := 1) rfl (by first | exact Or.inl rfl | exact Or.inr (Or.inl rfl) | exact Or.inr (Or.inr rfl))) ra_nil))))))) hm b
  exact z
theorem R_Lots_unit {G : Wo} (M : Mg G) (A : PropAt G s_Lots_unit "Lots" "unit" "Lots.unit" ["self"]) : PropOk G 3 "Lots" "unit" (fnOf 1 F_Lots_unit) := by
  obtain ⟨c, p, f, fd, hm, cl, me, Fd, b⟩ := A.ex
  have z := def_fn (lv := 2) Fd sc_Lots_unit (f := F_Lots_unit) ((rb_one (rs_ret (re_fld M.q_Lots__unit (re_var (i := 0) rfl (by first | exact Or.inl rfl | exact Or.inr (Or.inl rfl) | exact Or.inr (Or.inr rfl)))))))
  exact ⟨c, p, f, fd, ["self"], hm, cl, me, rfl, z, b⟩
theorem R_local_walk {G : Wo} (M : Mg G) (A : DefAt G s_local_walk "local_walk" ["lots", "pin"]) (D_check_place : DefOk G 11 "check_place" 2 m_check_place) (D_pair_rows : DefOk G 6 "pair_rows" 2 m_pair_rows) (D_fraction : DefOk G 4 "fraction" 2 m_fraction) : DefOk G 12 "local_walk" 2 (fnOf 4 F_local_walk) := by
  obtain ⟨fa, fd, Fd, hm, b⟩ := A.ex
  have z := def_ok (lv := 11) Fd sc_local_walk (f := F_local_walk) ((rb_cons (rs_expr (re_call D_check_place (Nat.le_of_ble_eq_true rfl) (by rfl) (ra_cons (re_var (i := 0) rfl (by first | exact Or.inl rfl | exact Or.inr (Or.inl rfl) | exact Or.inr (Or.inr rfl))) (ra_cons (re_var (i := 1) rfl (by first | exact Or.inl rfl | exact Or.inr (Or.inl rfl) | exact Or.inr (Or.inr rfl))) ra_nil))))
  (rb_one (rs_ret (re_ct c_tuple3 (by rfl) M.n_tuple (by decide +kernel) (ra_cons (re_comp (own := [("row", 2)]) (by dsimp only; decide +kernel) (ri_seq (re_call D_pair_rows (Nat.le_of_ble_eq_true rfl) (by rfl) (ra_cons (re_var (i := 0) rfl (by first | exact Or.inl rfl | exact Or.inr (Or.inl rfl) | exact Or.inr (Or.inr rfl))) (ra_cons (re_var (i := 1) rfl (by first | exact Or.inl rfl | exact Or.inr (Or.inl rfl) | exact Or.inr (Or.inr rfl))) ra_nil)))) (rg_n (i := 2) ⟨by rfl, by first | exact Or.inl rfl | exact Or.inr rfl, by first | exact Or.inl rfl | exact Or.inr (Or.inl rfl) | exact Or.inr (Or.inr rfl)⟩) rts_nil (re_ct c_tuple3 (by rfl) M.n_tuple (by decide +kernel) (ra_cons (re_comp (own := [("many", 3)]) (by dsimp only; decide +kernel) (ri_seq (re_var (i := 2) rfl (by first | exact Or.inl rfl | exact Or.inr (Or.inl rfl) | exact Or.inr (Or.inr rfl)))) (rg_n (i := 3) ⟨by rfl, by first | exact Or.inl rfl | exact Or.inr rfl, by first | exact Or.inl rfl | exact Or.inr (Or.inl rfl) | exact Or.inr (Or.inr rfl)⟩) rts_nil (re_call D_fraction (Nat.le_of_ble_eq_true rfl) (by rfl) (ra_cons (re_var (i := 3) rfl (by first | exact Or.inl rfl | exact Or.inr (Or.inl rfl) | exact Or.inr (Or.inr rfl))) (ra_cons (re_cb c_sum (by rfl) M.n_sum (by decide +kernel) (ra_cons (re_var (i := 2) rfl (by first | exact Or.inl rfl | exact Or.inr (Or.inl rfl) | exact Or.inr (Or.inr rfl))) ra_nil)) ra_nil)))) ra_nil))) ra_nil)))))) hm b
  exact z
theorem R_is_parting {G : Wo} (M : Mg G) (A : DefAt G s_is_parting "is_parting" ["lots", "pin", "value"]) (D_check_place : DefOk G 11 "check_place" 2 m_check_place) (D_are_things : DefOk G 7 "are_things" 1 m_are_things) (D_things_left : DefOk G 5 "things_left" 2 m_things_left) (D_Lots_multiple_of : MethOk G 3 "Lots" "multiple_of" 1 m_Lots_multiple_of) (D_together : DefOk G 3 "together" 2 m_together) : DefOk G 12 "is_parting" 3 (fnOf 7 F_is_parting) := by
  obtain ⟨fa, fd, Fd, hm, b⟩ := A.ex
  have z := def_ok (lv := 11) Fd sc_is_parting (f := F_is_parting) ((rb_cons (rs_expr (re_call D_check_place (Nat.le_of_ble_eq_true rfl) (by rfl) (ra_cons (re_var (i := 0) rfl (by first | exact Or.inl rfl | exact Or.inr (Or.inl rfl) | exact Or.inr (Or.inr rfl))) (ra_cons (re_var (i := 1) rfl (by first | exact Or.inl rfl | exact Or.inr (Or.inl rfl) | exact Or.inr (Or.inr rfl))) ra_nil))))
  (rb_cons (rs_if (rw_rt (rw_or (rt_not (rt_val (re_call D_are_things (Nat.le_of_ble_eq_true rfl) (by rfl) (ra_cons (re_var (i := 2) rfl (by first | exact Or.inl rfl | exact Or.inr (Or.inl rfl) | exact Or.inr (Or.inr rfl))) ra_nil)))) (rw_or1 (rt_cmp o_eq (re_cb c_len (by rfl) M.n_len (by decide +kernel) (ra_cons (re_var (i := 2) rfl (by first | exact Or.inl rfl | exact Or.inr (Or.inl rfl) | exact Or.inr (Or.inr rfl))) ra_nil)) re_int)))) (rb_one (rs_ret re_bl)) rb_nil)
  (rb_cons (rs_set (i := 3) ⟨by rfl, by first | exact Or.inl rfl | exact Or.inr rfl, by first | exact Or.inl rfl | exact Or.inr (Or.inl rfl) | exact Or.inr (Or.inr rfl)⟩ (re_call D_things_left (Nat.le_of_ble_eq_true rfl) (by rfl) (ra_cons (re_var (i := 0) rfl (by first | exact Or.inl rfl | exact Or.inr (Or.inl rfl) | exact Or.inr (Or.inr rfl))) (ra_cons (re_var (i := 1) rfl (by first | exact Or.inl rfl | exact Or.inr (Or.inl rfl) | exact Or.inr (Or.inr rfl))) ra_nil))))
  (rb_cons (rs_set (i := 4) ⟨by rfl, by first | exact Or.inl rfl | exact Or.inr rfl, by first | exact Or.inl rfl | exact Or.inr (Or.inl rfl) | exact Or.inr (Or.inr rfl)⟩ (re_comp (own := [("thing", 5)]) (by dsimp only; decide +kernel) (ri_seq (re_var (i := 3) rfl (by first | exact Or.inl rfl | exact Or.inr (Or.inl rfl) | exact Or.inr (Or.inr rfl)))) (rg_n (i := 5) ⟨by rfl, by first | exact Or.inl rfl | exact Or.inr rfl, by first | exact Or.inl rfl | exact Or.inr (Or.inl rfl) | exact Or.inr (Or.inr rfl)⟩) (rts_one (rt_rc (rc_in true (re_var (i := 5) rfl (by first | exact Or.inl rfl | exact Or.inr (Or.inl rfl) | exact Or.inr (Or.inr rfl))) (re_var (i := 2) rfl (by first | exact Or.inl rfl | exact Or.inr (Or.inl rfl) | exact Or.inr (Or.inr rfl)))))) (re_var (i := 5) rfl (by first | exact Or.inl rfl | exact Or.inr (Or.inl rfl) | exact Or.inr (Or.inr rfl)))) (fun env h => by cases env; cases h; rfl))
  (rb_cons (rs_if (rw_rt (rw_or (rt_cmp o_eq (re_cb c_len (by rfl) M.n_len (by decide +kernel) (ra_cons (re_var (i := 4) rfl (by first | exact Or.inl rfl | exact Or.inr (Or.inl rfl) | exact Or.inr (Or.inr rfl))) ra_nil)) re_int) (rw_or1 (rt_cmp o_ne (re_bin o_add (re_cb c_len (by rfl) M.n_len (by decide +kernel) (ra_cons (re_var (i := 4) rfl (by first | exact Or.inl rfl | exact Or.inr (Or.inl rfl) | exact Or.inr (Or.inr rfl))) ra_nil)) (re_cb c_len (by rfl) M.n_len (by decide +kernel) (ra_cons (re_var (i := 2) rfl (by first | exact Or.inl rfl | exact Or.inr (Or.inl rfl) | exact Or.inr (Or.inr rfl))) ra_nil))) (re_cb c_len (by rfl) M.n_len (by decide +kernel) (ra_cons (re_var (i := 3) rfl (by first | exact Or.inl rfl | exact Or.inr (Or.inl rfl) | exact Or.inr (Or.inr rfl))) ra_nil)))))) (rb_one (rs_ret re_bl)) rb_nil)
  (rb_one (rs_ret (re_cb c_all (by rfl) M.n_all (by decide +kernel) (ra_cons (re_comp2 (own := [("thing", 5), ("other", 6)]) (vs1 := [6]) (by dsimp only; decide +kernel) (ri_seq (re_var (i := 2) rfl (by first | exact Or.inl rfl | exact Or.inr (Or.inl rfl) | exact Or.inr (Or.inr rfl)))) (rg_n (i := 5) ⟨by rfl, by first | exact Or.inl rfl | exact Or.inr rfl, by first | exact Or.inl rfl | exact Or.inr (Or.inl rfl) | exact Or.inr (Or.inr rfl)⟩) rts_nil (ri_seq (re_var (i := 4) rfl (by first | exact Or.inl rfl | exact Or.inr (Or.inl rfl) | exact Or.inr (Or.inr rfl)))) (rg_n (i := 6) ⟨by rfl, by first | exact Or.inl rfl | exact Or.inr rfl, by first | exact Or.inl rfl | exact Or.inr (Or.inl rfl) | exact Or.inr (Or.inr rfl)⟩) rts_nil (re_cmp o_eq (re_meth D_Lots_multiple_of (Nat.le_of_ble_eq_true rfl) (re_var (i := 0) rfl (by first | exact Or.inl rfl | exact Or.inr (Or.inl rfl) | exact Or.inr (Or.inr rfl))) (ra_cons (re_call D_together (Nat.le_of_ble_eq_true rfl) (by rfl) (ra_cons (re_var (i := 1) rfl (by first | exact Or.inl rfl | exact Or.inr (Or.inl rfl) | exact Or.inr (Or.inr rfl))) (ra_cons (re_tup (ra_cons (re_var (i := 5) rfl (by first | exact Or.inl rfl | exact Or.inr (Or.inl rfl) | exact Or.inr (Or.inr rfl))) (ra_cons (re_var (i := 6) rfl (by first | exact Or.inl rfl | exact Or.inr (Or.inl rfl) | exact Or.inr (Or.inr rfl))) ra_nil))) ra_nil))) ra_nil)) re_int)) ra_nil)))))))))) hm b
  exact z
end Pv.K18
namespace Pv.K18
open PySem PySem.Spec PyProof.Rows L2 Pv
open Pg (oxB oxB_ok tl_VE tl_IE tl_KE tl_RE tl_OE tl_AE)
theorem R_are_things {G : Wo} (M : Mg G) (A : DefAt G s_are_things "are_things" ["value"]) (D_is_thing : DefOk G 6 "is_thing" 1 m_is_thing) : DefOk G 7 "are_things" 1 (fnOf 4 F_are_things) := by
  obtain ⟨fa, fd, Fd, hm, b⟩ := A.ex
  have z := def_ok (lv := 6) Fd sc_are_things (f := F_are_things) ((rb_cons (rs_if (rw_rt (rw_or (rt_not (rt_val (re_cb c_isi (by rfl) M.n_isinstance (by decide +kernel) (ra_cons (re_var (i := 0) rfl (by first | exact Or.inl rfl | exact Or.inr (Or.inl rfl) | exact Or.inr (Or.inr rfl))) (ra_cons (re_bty (by rfl) M.n_tuple (by decide +kernel)) ra_nil))))) (rw_or1 (rt_not (rt_val (re_cb c_all (by rfl) M.n_all (by decide +kernel) (ra_cons (re_comp (own := [("thing", 1)]) (by dsimp only; decide +kernel) (ri_seq (re_var (i := 0) rfl (by first | exact Or.inl rfl | exact Or.inr (Or.inl rfl) | exact Or.inr (Or.inr rfl)))) (rg_n (i := 1) ⟨by rfl, by first | exact Or.inl rfl | exact Or.inr rfl, by first | exact Or.inl rfl | exact Or.inr (Or.inl rfl) | exact Or.inr (Or.inr rfl)⟩) rts_nil (re_call D_is_thing (Nat.le_of_ble_eq_true rfl) (by rfl) (ra_cons (re_var (i := 1) rfl (by first | exact Or.inl rfl | exact Or.inr (Or.inl rfl) | exact Or.inr (Or.inr rfl))) ra_nil))) ra_nil))))))) (rb_one (rs_ret re_bl)) rb_nil)
  (rb_one (rs_ret (re_cb c_all (by rfl) M.n_all (by decide +kernel) (ra_cons (re_comp (own := [("low", 2), ("high", 3)]) (by dsimp only; decide +kernel) (ri_zip2 (by rfl) M.n_zip (ra_cons (re_var (i := 0) rfl (by first | exact Or.inl rfl | exact Or.inr (Or.inl rfl) | exact Or.inr (Or.inr rfl))) (ra_cons (re_sl2 (re_var (i := 0) rfl (by first | exact Or.inl rfl | exact Or.inr (Or.inl rfl) | exact Or.inr (Or.inr rfl))) (ro_pt re_int) ro_no) ra_nil))) (rg_t (.cons ⟨by rfl, by first | exact Or.inl rfl | exact Or.inr rfl, by first | exact Or.inl rfl | exact Or.inr (Or.inl rfl) | exact Or.inr (Or.inr rfl)⟩ (.cons ⟨by rfl, by first | exact Or.inl rfl | exact Or.inr rfl, by first | exact Or.inl rfl | exact Or.inr (Or.inl rfl) | exact Or.inr (Or.inr rfl)⟩ .nil))) rts_nil (re_cmp o_lt (re_var (i := 2) rfl (by first | exact Or.inl rfl | exact Or.inr (Or.inl rfl) | exact Or.inr (Or.inr rfl))) (re_var (i := 3) rfl (by first | exact Or.inl rfl | exact Or.inr (Or.inl rfl) | exact Or.inr (Or.inr rfl))))) ra_nil)))))) hm b
  exact z
theorem R_is_lots_data {G : Wo} (M : Mg G) (A : DefAt G s_is_lots_data "is_lots_data" ["value"]) (D__are_different_lots : DefOk G 9 "_are_different_lots" 1 m__are_different_lots) (D_is_above_0 : DefOk G 6 "is_above_0" 1 m_is_above_0) : DefOk G 10 "is_lots_data" 1 (fnOf 2 F_is_lots_data) := by
  obtain ⟨fa, fd, Fd, hm, b⟩ := A.ex
  have z := def_ok (lv := 9) Fd sc_is_lots_data (f := F_is_lots_data) ((rb_cons (rs_if (rw_rt (rw_or (rt_not (rt_val (re_cb c_isi (by rfl) M.n_isinstance (by decide +kernel) (ra_cons (re_var (i := 0) rfl (by first | exact Or.inl rfl | exact Or.inr (Or.inl rfl) | exact Or.inr (Or.inr rfl))) (ra_cons (re_bty (by rfl) M.n_dict (by decide +kernel)) ra_nil))))) (rw_or1 (rt_not (rt_val (re_call D__are_different_lots (Nat.le_of_ble_eq_true rfl) (by rfl) (ra_cons (re_ct c_tuple3 (by rfl) M.n_tuple (by decide +kernel) (ra_cons (re_var (i := 0) rfl (by first | exact Or.inl rfl | exact Or.inr (Or.inl rfl) | exact Or.inr (Or.inr rfl))) ra_nil)) ra_nil))))))) (rb_one (rs_ret re_bl)) rb_nil)
  (rb_one (rs_ret (re_cb c_all (by rfl) M.n_all (by decide +kernel) (ra_cons (re_comp (own := [("weight", 1)]) (by dsimp only; decide +kernel) (ri_vals (re_var (i := 0) rfl (by first | exact Or.inl rfl | exact Or.inr (Or.inl rfl) | exact Or.inr (Or.inr rfl)))) (rg_n (i := 1) ⟨by rfl, by first | exact Or.inl rfl | exact Or.inr rfl, by first | exact Or.inl rfl | exact Or.inr (Or.inl rfl) | exact Or.inr (Or.inr rfl)⟩) rts_nil (re_call D_is_above_0 (Nat.le_of_ble_eq_true rfl) (by rfl) (ra_cons (re_var (i := 1) rfl (by first | exact Or.inl rfl | exact Or.inr (Or.inl rfl) | exact Or.inr (Or.inr rfl))) ra_nil))) ra_nil)))))) hm b
  exact z
theorem R_Lots___init__ {G : Wo} (M : Mg G) (A : InitAt G s_Lots___init__ "Lots" "__init__" "Lots.__init__" ["self", "weights"]) (D_is_lots_data : DefOk G 10 "is_lots_data" 1 m_is_lots_data) (D_whole_row : DefOk G 4 "whole_row" 1 m_whole_row) (D_common_divisor : DefOk G 3 "common_divisor" 1 m_common_divisor) (D_pair_of : DefOk G 3 "pair_of" 1 m_pair_of) (D_fraction : DefOk G 4 "fraction" 2 m_fraction) (D__pin_sums : DefOk G 4 "_pin_sums" 2 m__pin_sums) : MakeOk G 11 "Lots" 1 (fnB 8 F_Lots___init__) := by
  obtain ⟨c, f, fd, hm, mk, Fd, b⟩ := A.ex
  have z := def_fnB (lv := 10) (n := 1) Fd sc_Lots___init__ (f := F_Lots___init__) ((rb_cons (rs_if (rt_not (rt_val (re_call D_is_lots_data (Nat.le_of_ble_eq_true rfl) (by rfl) (ra_cons (re_var (i := 1) rfl (by first | exact Or.inl rfl | exact Or.inr (Or.inl rfl) | exact Or.inr (Or.inr rfl))) ra_nil)))) (rb_one (rs_raise (rm_mk0 M.k_InvalidLots (by rfl)))) rb_nil)
  (rb_cons (rs_set (i := 2) ⟨by rfl, by first | exact Or.inl rfl | exact Or.inr rfl, by first | exact Or.inl rfl | exact Or.inr (Or.inl rfl) | exact Or.inr (Or.inr rfl)⟩ (re_cb c_sorted2 (by rfl) M.n_sorted (by decide +kernel) (ra_cons (re_var (i := 1) rfl (by first | exact Or.inl rfl | exact Or.inr (Or.inl rfl) | exact Or.inr (Or.inr rfl))) ra_nil)))
  (rb_cons (rs_asg (rg_t (.cons ⟨by rfl, by first | exact Or.inl rfl | exact Or.inr rfl, by first | exact Or.inl rfl | exact Or.inr (Or.inl rfl) | exact Or.inr (Or.inr rfl)⟩ (.cons ⟨by rfl, by first | exact Or.inl rfl | exact Or.inr rfl, by first | exact Or.inl rfl | exact Or.inr (Or.inl rfl) | exact Or.inr (Or.inr rfl)⟩ .nil))) (re_call D_whole_row (Nat.le_of_ble_eq_true rfl) (by rfl) (ra_cons (re_comp (own := [("lot", 6)]) (by dsimp only; decide +kernel) (ri_seq (re_var (i := 2) rfl (by first | exact Or.inl rfl | exact Or.inr (Or.inl rfl) | exact Or.inr (Or.inr rfl)))) (rg_n (i := 6) ⟨by rfl, by first | exact Or.inl rfl | exact Or.inr rfl, by first | exact Or.inl rfl | exact Or.inr (Or.inl rfl) | exact Or.inr (Or.inr rfl)⟩) rts_nil (re_ix (re_var (i := 1) rfl (by first | exact Or.inl rfl | exact Or.inr (Or.inl rfl) | exact Or.inr (Or.inr rfl))) (re_var (i := 6) rfl (by first | exact Or.inl rfl | exact Or.inr (Or.inl rfl) | exact Or.inr (Or.inr rfl))))) ra_nil)))
  (rb_cons (rs_set (i := 5) ⟨by rfl, by first | exact Or.inl rfl | exact Or.inr rfl, by first | exact Or.inl rfl | exact Or.inr (Or.inl rfl) | exact Or.inr (Or.inr rfl)⟩ (re_call D_common_divisor (Nat.le_of_ble_eq_true rfl) (by rfl) (ra_cons (re_var (i := 3) rfl (by first | exact Or.inl rfl | exact Or.inr (Or.inl rfl) | exact Or.inr (Or.inr rfl))) ra_nil)))
  (rb_cons (rs_setf (i := 0) M.q_Lots__weights rfl (by first | exact Or.inl rfl | exact Or.inr (Or.inl rfl) | exact Or.inr (Or.inr rfl)) (re_rf (rf_dcomp (own := [("lot", 6)]) (by dsimp only; decide +kernel) (ri_seq (re_var (i := 2) rfl (by first | exact Or.inl rfl | exact Or.inr (Or.inl rfl) | exact Or.inr (Or.inr rfl)))) (rg_n (i := 6) ⟨by rfl, by first | exact Or.inl rfl | exact Or.inr rfl, by first | exact Or.inl rfl | exact Or.inr (Or.inl rfl) | exact Or.inr (Or.inr rfl)⟩) rts_nil (re_var (i := 6) rfl (by first | exact Or.inl rfl | exact Or.inr (Or.inl rfl) | exact Or.inr (Or.inr rfl))) (re_call D_pair_of (Nat.le_of_ble_eq_true rfl) (by rfl) (ra_cons (re_ix (re_var (i := 1) rfl (by first | exact Or.inl rfl | exact Or.inr (Or.inl rfl) | exact Or.inr (Or.inr rfl))) (re_var (i := 6) rfl (by first | exact Or.inl rfl | exact Or.inr (Or.inl rfl) | exact Or.inr (Or.inr rfl)))) ra_nil)))) (hs := (fun env h => by cases env; cases h; rfl)))
  (rb_cons (rs_setf (i := 0) M.q_Lots__size rfl (by first | exact Or.inl rfl | exact Or.inr (Or.inl rfl) | exact Or.inr (Or.inr rfl)) (re_cb c_len (by rfl) M.n_len (by decide +kernel) (ra_cons (re_ix (re_var (i := 2) rfl (by first | exact Or.inl rfl | exact Or.inr (Or.inl rfl) | exact Or.inr (Or.inr rfl))) re_int) ra_nil)))
  (rb_cons (rs_setf (i := 0) M.q_Lots__unit rfl (by first | exact Or.inl rfl | exact Or.inr (Or.inl rfl) | exact Or.inr (Or.inr rfl)) (re_call D_fraction (Nat.le_of_ble_eq_true rfl) (by rfl) (ra_cons (re_var (i := 5) rfl (by first | exact Or.inl rfl | exact Or.inr (Or.inl rfl) | exact Or.inr (Or.inr rfl))) (ra_cons (re_var (i := 4) rfl (by first | exact Or.inl rfl | exact Or.inr (Or.inl rfl) | exact Or.inr (Or.inr rfl))) ra_nil))))
  (rb_one (rs_setf (i := 0) M.q_Lots__multiples rfl (by first | exact Or.inl rfl | exact Or.inr (Or.inl rfl) | exact Or.inr (Or.inr rfl)) (re_call D__pin_sums (Nat.le_of_ble_eq_true rfl) (by rfl) (ra_cons (re_var (i := 2) rfl (by first | exact Or.inl rfl | exact Or.inr (Or.inl rfl) | exact Or.inr (Or.inr rfl))) (ra_cons (re_comp (own := [("many", 7)]) (by dsimp only; decide +kernel) (ri_seq (re_var (i := 3) rfl (by first | exact Or.inl rfl | exact Or.inr (Or.inl rfl) | exact Or.inr (Or.inr rfl)))) (rg_n (i := 7) ⟨by rfl, by first | exact Or.inl rfl | exact Or.inr rfl, by first | exact Or.inl rfl | exact Or.inr (Or.inl rfl) | exact Or.inr (Or.inr rfl)⟩) rts_nil (re_bin o_div (re_var (i := 7) rfl (by first | exact Or.inl rfl | exact Or.inr (Or.inl rfl) | exact Or.inr (Or.inr rfl))) (re_var (i := 5) rfl (by first | exact Or.inl rfl | exact Or.inr (Or.inl rfl) | exact Or.inr (Or.inr rfl))))) ra_nil))))))))))))) rfl (by decide)
  exact ⟨c, f, fd, ["self", "weights"], hm, mk, rfl, z, b⟩
theorem R_check_room {G : Wo} (M : Mg G) (A : DefAt G s_check_room "check_room" ["lots", "pin"]) (D_Lots_size : PropOk G 3 "Lots" "size" m_Lots_size) : DefOk G 5 "check_room" 2 (fnOf 2 F_check_room) := by
  obtain ⟨fa, fd, Fd, hm, b⟩ := A.ex
  have z := def_ok (lv := 4) Fd sc_check_room (f := F_check_room) ((rb_one (rs_if (rt_cmp o_gt (re_cb c_len (by rfl) M.n_len (by decide +kernel) (ra_cons (re_var (i := 1) rfl (by first | exact Or.inl rfl | exact Or.inr (Or.inl rfl) | exact Or.inr (Or.inr rfl))) ra_nil)) (re_bin o_sub (re_prop D_Lots_size (Nat.le_of_ble_eq_true rfl) (re_var (i := 0) rfl (by first | exact Or.inl rfl | exact Or.inr (Or.inl rfl) | exact Or.inr (Or.inr rfl)))) re_int)) (rb_one (rs_raise (rm_mk0 M.k_InvalidOperation (by rfl)))) rb_nil))) hm b
  exact z
theorem R_check_number {G : Wo} (M : Mg G) (A : DefAt G s_check_number "check_number" ["value"]) (D_is_number : DefOk G 5 "is_number" 1 m_is_number) : DefOk G 6 "check_number" 1 (fnOf 1 F_check_number) := by
  obtain ⟨fa, fd, Fd, hm, b⟩ := A.ex
  have z := def_ok (lv := 5) Fd sc_check_number (f := F_check_number) ((rb_one (rs_if (rt_not (rt_val (re_call D_is_number (Nat.le_of_ble_eq_true rfl) (by rfl) (ra_cons (re_var (i := 0) rfl (by first | exact Or.inl rfl | exact Or.inr (Or.inl rfl) | exact Or.inr (Or.inr rfl))) ra_nil)))) (rb_one (rs_raise (rm_mk M.k_InvalidNumber (Nat.le_of_ble_eq_true rfl) (by rfl) (ra_cons (re_var (i := 0) rfl (by first | exact Or.inl rfl | exact Or.inr (Or.inl rfl) | exact Or.inr (Or.inr rfl))) ra_nil)))) rb_nil))) hm b
  exact z
theorem R_walk_shares {G : Wo} (M : Mg G) (A : DefAt G s_walk_shares "walk_shares" ["lots", "pin"]) (D_check_place : DefOk G 11 "check_place" 2 m_check_place) (D_pair_rows : DefOk G 6 "pair_rows" 2 m_pair_rows) (D_fraction : DefOk G 4 "fraction" 2 m_fraction) : DefOk G 12 "walk_shares" 2 (fnOf 5 F_walk_shares) := by
  obtain ⟨fa, fd, Fd, hm, b⟩ := A.ex
  have z := def_ok (lv := 11) Fd sc_walk_shares (f := F_walk_shares) ((rb_cons (rs_expr (re_call D_check_place (Nat.le_of_ble_eq_true rfl) (by rfl) (ra_cons (re_var (i := 0) rfl (by first | exact Or.inl rfl | exact Or.inr (Or.inl rfl) | exact Or.inr (Or.inr rfl))) (ra_cons (re_var (i := 1) rfl (by first | exact Or.inl rfl | exact Or.inr (Or.inl rfl) | exact Or.inr (Or.inr rfl))) ra_nil))))
  (rb_cons (rs_set (i := 2) ⟨by rfl, by first | exact Or.inl rfl | exact Or.inr rfl, by first | exact Or.inl rfl | exact Or.inr (Or.inl rfl) | exact Or.inr (Or.inr rfl)⟩ (re_comp (own := [("row", 3)]) (by dsimp only; decide +kernel) (ri_seq (re_call D_pair_rows (Nat.le_of_ble_eq_true rfl) (by rfl) (ra_cons (re_var (i := 0) rfl (by first | exact Or.inl rfl | exact Or.inr (Or.inl rfl) | exact Or.inr (Or.inr rfl))) (ra_cons (re_var (i := 1) rfl (by first | exact Or.inl rfl | exact Or.inr (Or.inl rfl) | exact Or.inr (Or.inr rfl))) ra_nil)))) (rg_n (i := 3) ⟨by rfl, by first | exact Or.inl rfl | exact Or.inr rfl, by first | exact Or.inl rfl | exact Or.inr (Or.inl rfl) | exact Or.inr (Or.inr rfl)⟩) rts_nil (re_cb c_sum (by rfl) M.n_sum (by decide +kernel) (ra_cons (re_var (i := 3) rfl (by first | exact Or.inl rfl | exact Or.inr (Or.inl rfl) | exact Or.inr (Or.inr rfl))) ra_nil))) (fun env h => by cases env; cases h; rfl))
  (rb_one (rs_ret (re_ct c_tuple3 (by rfl) M.n_tuple (by decide +kernel) (ra_cons (re_comp (own := [("mass", 4)]) (by dsimp only; decide +kernel) (ri_seq (re_var (i := 2) rfl (by first | exact Or.inl rfl | exact Or.inr (Or.inl rfl) | exact Or.inr (Or.inr rfl)))) (rg_n (i := 4) ⟨by rfl, by first | exact Or.inl rfl | exact Or.inr rfl, by first | exact Or.inl rfl | exact Or.inr (Or.inl rfl) | exact Or.inr (Or.inr rfl)⟩) rts_nil (re_call D_fraction (Nat.le_of_ble_eq_true rfl) (by rfl) (ra_cons (re_var (i := 4) rfl (by first | exact Or.inl rfl | exact Or.inr (Or.inl rfl) | exact Or.inr (Or.inr rfl))) (ra_cons (re_cb c_sum (by rfl) M.n_sum (by decide +kernel) (ra_cons (re_var (i := 2) rfl (by first | exact Or.inl rfl | exact Or.inr (Or.inl rfl) | exact Or.inr (Or.inr rfl))) ra_nil)) ra_nil)))) ra_nil))))))) hm b
  exact z
theorem E__law_met {G : Wo} (M : Mg G) : ErrIn G ks__law_met := fun k hk => by
  unfold ks__law_met at hk
  simp only [List.mem_cons, List.not_mem_nil, or_false] at hk
  rcases hk with rfl | rfl | rfl
  · exact M.e_InvalidLots
  · exact M.e_InvalidPin
  · exact M.e_InvalidOperation
theorem H__law_met {G : Wo} (M : Mg G) (A : DefAt G s__law_met "_law_met" ["call"]) (k : Nat) : HearOk G k "_law_met" "call" SUB ks__law_met c__law_met :=
  hear_mk M.sub (E__law_met M) ⟨s__law_met, ["call"], _, _, _, _, _, _, _, (sRet (fTup (faCons (fC (.str "fine")) faNil))), A, sc__law_met, rfl, (by first | exact Or.inl rfl | exact Or.inr (Or.inl rfl) | exact Or.inr (Or.inr rfl)), rfl, (.no (by rfl) (by decide) (rk_ret (ry_tup (rya_cons ry_str (rya_cons ry_str rya_nil)))) (.no (by rfl) (by decide) (rk_ret (ry_tup (rya_cons ry_str (rya_cons ry_str rya_nil)))) (.no (by rfl) (by decide) (rk_ret (ry_tup (rya_cons ry_str (rya_cons ry_str rya_nil)))) .nil))), (rb_one (rs_ret (re_tup (ra_cons re_str ra_nil)))), fun _ => rfl⟩
end Pv.K18
namespace Pv.K18
open PySem PySem.Spec PyProof.Rows L2 Pv
open Pg (oxB oxB_ok tl_VE tl_IE tl_KE tl_RE tl_OE tl_AE)
abbrev s_law : Stmt := top 67
theorem sc_law : FnScope ["script", "spot", "lone", "pairs", "told"] ["script"] (defScope s_law) := ⟨rfl, rfl, rfl, by decide +kernel, rfl, by decide +kernel, by decide +kernel⟩
theorem R_law {G : Wo} (M : Mg G) {fa c P : Addr} {kV doc pm ct oc : Value} {an od : Option Addr} {osl : Array (Option Value)} (lk : G.K.lookup fa = some ⟨oc, od, .func (PySem.W.fnOf "law" "law" (defArgs s_law) (defBody s_law) (defScope s_law) .none kV doc pm an (.ref c) ct), osl⟩) (hcd : PySem.W.codeIn G.K (.ref c) "law" = true) (TB : LamX.TabB G.base G.mg c P) (hT : (P, ("law.<locals>." : Str) ++ "<lambda>") ∈ G.T) (hu : ∀ p ∈ G.T, p.1 = P → p.2 = ("law.<locals>." : Str) ++ "<lambda>") (D__law_right : DefB G 16 "_law_right" 0 m__law_right) (D__law_dice : DefN G 3 "_law_dice" 2 m__law_dice) (D_Lots_all_of : CMetOk G 13 "Lots" "all_of" 2 m_Lots_all_of) (D_pieces : DefOk G 12 "pieces" 2 m_pieces) (D_masses : DefOk G 12 "masses" 2 m_masses) (H__law_met : ∀ k, HearOk G k "_law_met" "call" SUB ks__law_met c__law_met) : FnG G.P G.w G.K G.mg G.base (L2.CX G.P G.w) 19 fa (PySem.W.fnOf "law" "law" (defArgs s_law) (defBody s_law) (defScope s_law) .none kV doc pm an (.ref c) ct) ["script"] (spF G (fnOf 5 F_law) 1) := by
  have z := def_fnL (lv := 18) lk hcd TB sc_law (f := F_law) ((rb_cons (rs_for (ri_rng1 (by rfl) M.n_range (ra_cons (re_cb c_maxA (by rfl) M.n_max (by decide +kernel) (ra_cons re_int (ra_cons (re_cb c_minA (by rfl) M.n_min (by decide +kernel) (ra_cons re_int (ra_cons (re_cb c_len (by rfl) M.n_len (by decide +kernel) (ra_cons (re_var (i := 0) rfl (by first | exact Or.inl rfl | exact Or.inr (Or.inl rfl) | exact Or.inr (Or.inr rfl))) ra_nil)) ra_nil))) ra_nil))) ra_nil)) (rg_n (i := 1) ⟨by rfl, by first | exact Or.inl rfl | exact Or.inr rfl, by first | exact Or.inl rfl | exact Or.inr (Or.inl rfl) | exact Or.inr (Or.inr rfl)⟩) (rb_one (rs_if (rt_not (rt_val (re_callBF D__law_right (Nat.le_of_ble_eq_true rfl) (by rfl) (rf_call D__law_dice (Nat.le_of_ble_eq_true rfl) (by rfl) (ra_cons (re_var (i := 0) rfl (by first | exact Or.inl rfl | exact Or.inr (Or.inl rfl) | exact Or.inr (Or.inr rfl))) (ra_cons (re_var (i := 1) rfl (by first | exact Or.inl rfl | exact Or.inr (Or.inl rfl) | exact Or.inr (Or.inr rfl))) ra_nil))) ra_nil))) (rb_one (rs_ret re_bl)) rb_nil)))
  (rb_cons (rs_asg (rg_t (.cons ⟨by rfl, by first | exact Or.inl rfl | exact Or.inr rfl, by first | exact Or.inl rfl | exact Or.inr (Or.inl rfl) | exact Or.inr (Or.inr rfl)⟩ (.cons ⟨by rfl, by first | exact Or.inl rfl | exact Or.inr rfl, by first | exact Or.inl rfl | exact Or.inr (Or.inl rfl) | exact Or.inr (Or.inr rfl)⟩ .nil))) (re_tup (ra_cons (re_cmet D_Lots_all_of (Nat.le_of_ble_eq_true rfl) (by rfl) (ra_cons re_int (ra_cons re_int ra_nil))) (ra_cons (re_cmet D_Lots_all_of (Nat.le_of_ble_eq_true rfl) (by rfl) (ra_cons re_int (ra_cons re_int ra_nil))) ra_nil))) (fun env h => by cases env; cases h; rfl) (fun env h => by cases env; cases h; rfl))
  (rb_cons (rs_own (i := 4) ⟨by rfl, by first | exact Or.inl rfl | exact Or.inr rfl, by first | exact Or.inl rfl | exact Or.inr (Or.inl rfl) | exact Or.inr (Or.inr rfl)⟩ (rf_lst (ra_cons (re_hear (k := 16) (H__law_met _) (Nat.le_of_ble_eq_true rfl) (by rfl) rfl hT hu (LamX.lamS_by (by dsimp only; decide +kernel)) (fun _ => rfl) (fun _ _ _ _ _ => rfl) (re_call D_pieces (Nat.le_of_ble_eq_true rfl) (by rfl) (ra_cons (re_var (i := 2) rfl (by first | exact Or.inl rfl | exact Or.inr (Or.inl rfl) | exact Or.inr (Or.inr rfl))) (ra_cons (re_tup ra_nil) ra_nil)))) ra_nil)))
  (rb_cons (rs_expr (re_app (i := 4) rfl (by first | exact Or.inl rfl | exact Or.inr (Or.inl rfl) | exact Or.inr (Or.inr rfl)) (re_hear (k := 16) (H__law_met _) (Nat.le_of_ble_eq_true rfl) (by rfl) rfl hT hu (LamX.lamS_by (by dsimp only; decide +kernel)) (fun _ => rfl) (fun _ _ _ _ _ => rfl) (re_call D_pieces (Nat.le_of_ble_eq_true rfl) (by rfl) (ra_cons (re_var (i := 3) rfl (by first | exact Or.inl rfl | exact Or.inr (Or.inl rfl) | exact Or.inr (Or.inr rfl))) (ra_cons (re_tup (ra_cons re_int ra_nil)) ra_nil))))))
  (rb_cons (rs_expr (re_app (i := 4) rfl (by first | exact Or.inl rfl | exact Or.inr (Or.inl rfl) | exact Or.inr (Or.inr rfl)) (re_hear (k := 16) (H__law_met _) (Nat.le_of_ble_eq_true rfl) (by rfl) rfl hT hu (LamX.lamS_by (by dsimp only; decide +kernel)) (fun _ => rfl) (fun _ _ _ _ _ => rfl) (re_call D_pieces (Nat.le_of_ble_eq_true rfl) (by rfl) (ra_cons (re_var (i := 3) rfl (by first | exact Or.inl rfl | exact Or.inr (Or.inl rfl) | exact Or.inr (Or.inr rfl))) (ra_cons (re_tup ra_nil) ra_nil))))))
  (rb_cons (rs_expr (re_app (i := 4) rfl (by first | exact Or.inl rfl | exact Or.inr (Or.inl rfl) | exact Or.inr (Or.inr rfl)) (re_hear (k := 16) (H__law_met _) (Nat.le_of_ble_eq_true rfl) (by rfl) rfl hT hu (LamX.lamS_by (by dsimp only; decide +kernel)) (fun _ => rfl) (fun _ _ _ _ _ => rfl) (re_call D_masses (Nat.le_of_ble_eq_true rfl) (by rfl) (ra_cons (re_var (i := 2) rfl (by first | exact Or.inl rfl | exact Or.inr (Or.inl rfl) | exact Or.inr (Or.inr rfl))) (ra_cons (re_tup (ra_cons re_int ra_nil)) ra_nil))))))
  (rb_one (rs_ret (re_cmp o_eq (re_var (i := 4) rfl (by first | exact Or.inl rfl | exact Or.inr (Or.inl rfl) | exact Or.inr (Or.inr rfl))) (re_lst (ra_cons (re_tup (ra_cons re_str (ra_cons re_str ra_nil))) (ra_cons (re_tup (ra_cons re_str (ra_cons re_str ra_nil))) (ra_cons (re_tup (ra_cons re_str ra_nil)) (ra_cons (re_tup (ra_cons re_str (ra_cons re_str ra_nil))) ra_nil)))))))))))))))
  exact z
theorem chain {G : Wo} (M : Mg G) {cs : List (Addr × Addr)} (hcs : ∀ p ∈ G.T, p.1 ∈ cs.map (·.2))
  {fa__law_right c__law_rightx P__law_right : Addr} {kV__law_right dc__law_right pm__law_right ct__law_right oc__law_right : Value} {an__law_right od__law_right : Option Addr} {sl__law_right : Array (Option Value)} (lk__law_right : G.K.lookup fa__law_right = some ⟨oc__law_right, od__law_right, .func (PySem.W.fnOf "_law_right" "_law_right" (defArgs s__law_right) (defBody s__law_right) (defScope s__law_right) .none kV__law_right dc__law_right pm__law_right an__law_right (.ref c__law_rightx) ct__law_right), sl__law_right⟩) (hc__law_right : PySem.W.codeIn G.K (.ref c__law_rightx) "_law_right" = true) (TB__law_right : LamX.TabB G.base G.mg c__law_rightx P__law_right) (hT__law_right : (P__law_right, (("_law_right.<locals>." : Str) ++ "<lambda>")) ∈ G.T) (hu__law_right : ∀ p ∈ G.T, p.1 = P__law_right → p.2 = (("_law_right.<locals>." : Str) ++ "<lambda>")) (hm__law_right : G.mg "_law_right" = some (.ref fa__law_right)) (kp__law_right : PySem.W.keepIn G.K (.ref fa__law_right) = true) (b__law_right : L2.Binds G.K (PySem.W.fnOf "_law_right" "_law_right" (defArgs s__law_right) (defBody s__law_right) (defScope s__law_right) .none kV__law_right dc__law_right pm__law_right an__law_right (.ref c__law_rightx) ct__law_right) ["dice"] [])
  {fa_law c_lawx P_law : Addr} {kV_law dc_law pm_law ct_law oc_law : Value} {an_law od_law : Option Addr} {sl_law : Array (Option Value)} (lk_law : G.K.lookup fa_law = some ⟨oc_law, od_law, .func (PySem.W.fnOf "law" "law" (defArgs s_law) (defBody s_law) (defScope s_law) .none kV_law dc_law pm_law an_law (.ref c_lawx) ct_law), sl_law⟩) (hc_law : PySem.W.codeIn G.K (.ref c_lawx) "law" = true) (TB_law : LamX.TabB G.base G.mg c_lawx P_law) (hT_law : (P_law, (("law.<locals>." : Str) ++ "<lambda>")) ∈ G.T) (hu_law : ∀ p ∈ G.T, p.1 = P_law → p.2 = (("law.<locals>." : Str) ++ "<lambda>"))
  (A__law_roll : DefAt G s__law_roll "_law_roll" ["dice", "most"])
  (A__law_pick : DefAt G s__law_pick "_law_pick" ["dice", "items"])
  (A__is_whole : DefAt G s__is_whole "_is_whole" ["value"])
  (A_is_integer : DefAt G s_is_integer "is_integer" ["value"])
  (A_is_within : DefAt G s_is_within "is_within" ["value", "low", "high"])
  (A_is_thing : DefAt G s_is_thing "is_thing" ["value"])
  (A_are_things : DefAt G s_are_things "are_things" ["value"])
  (A_is_lot : DefAt G s_is_lot "is_lot" ["value"])
  (A__are_different_lots : DefAt G s__are_different_lots "_are_different_lots" ["value"])
  (A_is_fraction : DefAt G s_is_fraction "is_fraction" ["value"])
  (A_is_number : DefAt G s_is_number "is_number" ["value"])
  (A_pair_of : DefAt G s_pair_of "pair_of" ["number"])
  (A_is_above_0 : DefAt G s_is_above_0 "is_above_0" ["value"])
  (A_is_lots_data : DefAt G s_is_lots_data "is_lots_data" ["value"])
  (A_whole_row : DefAt G s_whole_row "whole_row" ["numbers"])
  (A_common_divisor : DefAt G s_common_divisor "common_divisor" ["integers"])
  (A__reduced : DefAt G s__reduced "_reduced" ["top", "bottom"])
  (A_fraction : DefAt G s_fraction "fraction" ["top", "bottom"])
  (A_parts_of : DefAt G s_parts_of "parts_of" ["things"])
  (A__pin_sums : DefAt G s__pin_sums "_pin_sums" ["lots", "multiples"])
  (A_Lots___init__ : InitAt G s_Lots___init__ "Lots" "__init__" "Lots.__init__" ["self", "weights"])
  (A_check_lots : DefAt G s_check_lots "check_lots" ["lots"])
  (A_Lots_size : PropAt G s_Lots_size "Lots" "size" "Lots.size" ["self"])
  (A_Lots_multiple_of : MethAt G s_Lots_multiple_of "Lots" "multiple_of" "Lots.multiple_of" ["self", "things"])
  (A_is_pin : DefAt G s_is_pin "is_pin" ["lots", "value"])
  (A_check_pin : DefAt G s_check_pin "check_pin" ["lots", "pin"])
  (A_check_near : DefAt G s_check_near "check_near" ["lots", "pin"])
  (A_check_room : DefAt G s_check_room "check_room" ["lots", "pin"])
  (A_check_place : DefAt G s_check_place "check_place" ["lots", "pin"])
  (A_Lots_things : PropAt G s_Lots_things "Lots" "things" "Lots.things" ["self"])
  (A_together : DefAt G s_together "together" ["pin", "things"])
  (A_things_left : DefAt G s_things_left "things_left" ["lots", "pin"])
  (A_link_things : DefAt G s_link_things "link_things" ["lots", "pin"])
  (A_Lots_unit : PropAt G s_Lots_unit "Lots" "unit" "Lots.unit" ["self"])
  (A_check_number : DefAt G s_check_number "check_number" ["value"])
  (A__checked : DefAt G s__checked "_checked" ["number"])
  (A_multiplied : DefAt G s_multiplied "multiplied" ["one", "other"])
  (A_pair_weights : DefAt G s_pair_weights "pair_weights" ["lots", "pin"])
  (A_pair_rows : DefAt G s_pair_rows "pair_rows" ["lots", "pin"])
  (A_masses : DefAt G s_masses "masses" ["lots", "pin"])
  (A_local_walk : DefAt G s_local_walk "local_walk" ["lots", "pin"])
  (A_walk_shares : DefAt G s_walk_shares "walk_shares" ["lots", "pin"])
  (A__reached : DefAt G s__reached "_reached" ["rows", "start"])
  (A_pieces_of_rows : DefAt G s_pieces_of_rows "pieces_of_rows" ["rows"])
  (A_pieces : DefAt G s_pieces "pieces" ["lots", "pin"])
  (A_hangs_together : DefAt G s_hangs_together "hangs_together" ["lots", "pin"])
  (A_parting : DefAt G s_parting "parting" ["lots", "pin"])
  (A_is_parting : DefAt G s_is_parting "is_parting" ["lots", "pin", "value"])
  (A__law_met : DefAt G s__law_met "_law_met" ["call"])
  (A__law_dice : DefAt G s__law_dice "_law_dice" ["script", "spot"])
  (A_check_within : DefAt G s_check_within "check_within" ["value", "low", "high"])
  (A_Lots_all_of : CMetAt G s_Lots_all_of "Lots" "all_of" "Lots.all_of" ["cls", "things", "size"]) : FnG G.P G.w G.K G.mg G.base (L2.CX G.P G.w) 19 fa_law (PySem.W.fnOf "law" "law" (defArgs s_law) (defBody s_law) (defScope s_law) .none kV_law dc_law pm_law an_law (.ref c_lawx) ct_law) ["script"] (spTop G.K cs) := by
  have D__law_roll : DefB G 3 "_law_roll" 1 m__law_roll := R__law_roll M A__law_roll
  have D__law_pick : DefB G 4 "_law_pick" 1 m__law_pick := R__law_pick M A__law_pick D__law_roll
  have D__is_whole : DefOk G 3 "_is_whole" 1 m__is_whole := S__is_whole.le (R__is_whole M A__is_whole)
  have D_is_integer : DefOk G 4 "is_integer" 1 m_is_integer := S_is_integer.le (R_is_integer M A_is_integer D__is_whole)
  have D_is_within : DefOk G 5 "is_within" 3 m_is_within := S_is_within.le (R_is_within M A_is_within D_is_integer)
  have D_is_thing : DefOk G 6 "is_thing" 1 m_is_thing := S_is_thing.le (R_is_thing M A_is_thing D_is_within)
  have D_are_things : DefOk G 7 "are_things" 1 m_are_things := S_are_things.le (R_are_things M A_are_things D_is_thing)
  have D_is_lot : DefOk G 8 "is_lot" 1 m_is_lot := S_is_lot.le (R_is_lot M A_is_lot D_are_things)
  have D__are_different_lots : DefOk G 9 "_are_different_lots" 1 m__are_different_lots := S__are_different_lots.le (R__are_different_lots M A__are_different_lots D_is_lot)
  have D_is_fraction : DefOk G 4 "is_fraction" 1 m_is_fraction := S_is_fraction.le (R_is_fraction M A_is_fraction D__is_whole)
  have D_is_number : DefOk G 5 "is_number" 1 m_is_number := S_is_number.le (R_is_number M A_is_number D_is_integer D_is_fraction)
  have D_pair_of : DefOk G 3 "pair_of" 1 m_pair_of := S_pair_of.le (R_pair_of M A_pair_of)
  have D_is_above_0 : DefOk G 6 "is_above_0" 1 m_is_above_0 := S_is_above_0.le (R_is_above_0 M A_is_above_0 D_is_number D_pair_of)
  have D_is_lots_data : DefOk G 10 "is_lots_data" 1 m_is_lots_data := S_is_lots_data.le (R_is_lots_data M A_is_lots_data D__are_different_lots D_is_above_0)
  have D_whole_row : DefOk G 4 "whole_row" 1 m_whole_row := S_whole_row.le (R_whole_row M A_whole_row D_pair_of)
  have D_common_divisor : DefOk G 3 "common_divisor" 1 m_common_divisor := S_common_divisor.le (R_common_divisor M A_common_divisor)
  have D__reduced : DefOk G 3 "_reduced" 2 m__reduced := S__reduced.le (R__reduced M A__reduced)
  have D_fraction : DefOk G 4 "fraction" 2 m_fraction := S_fraction.le (R_fraction M A_fraction D__is_whole D__reduced)
  have D_parts_of : DefOk G 3 "parts_of" 1 m_parts_of := S_parts_of.le (R_parts_of M A_parts_of)
  have D__pin_sums : DefOk G 4 "_pin_sums" 2 m__pin_sums := S__pin_sums.le (R__pin_sums M A__pin_sums D_parts_of)
  have D_Lots___init__ : MakeOk G 11 "Lots" 1 m_Lots___init__ := R_Lots___init__ M A_Lots___init__ D_is_lots_data D_whole_row D_common_divisor D_pair_of D_fraction D__pin_sums
  have D_check_lots : DefOk G 3 "check_lots" 1 m_check_lots := S_check_lots.le (R_check_lots M A_check_lots)
  have D_Lots_size : PropOk G 3 "Lots" "size" m_Lots_size := R_Lots_size M A_Lots_size
  have D_Lots_multiple_of : MethOk G 3 "Lots" "multiple_of" 1 m_Lots_multiple_of := R_Lots_multiple_of M A_Lots_multiple_of
  have D_is_pin : DefOk G 8 "is_pin" 2 m_is_pin := S_is_pin.le (R_is_pin M A_is_pin D_check_lots D_are_things D_Lots_size D_Lots_multiple_of)
  have D_check_pin : DefOk G 9 "check_pin" 2 m_check_pin := S_check_pin.le (R_check_pin M A_check_pin D_is_pin)
  have D_check_near : DefOk G 10 "check_near" 2 m_check_near := S_check_near.le (R_check_near M A_check_near D_check_lots D_check_pin)
  have D_check_room : DefOk G 5 "check_room" 2 m_check_room := S_check_room.le (R_check_room M A_check_room D_Lots_size)
  have D_check_place : DefOk G 11 "check_place" 2 m_check_place := S_check_place.le (R_check_place M A_check_place D_check_near D_check_room)
  have D_Lots_things : PropOk G 3 "Lots" "things" m_Lots_things := R_Lots_things M A_Lots_things
  have D_together : DefOk G 3 "together" 2 m_together := S_together.le (R_together M A_together)
  have D_things_left : DefOk G 5 "things_left" 2 m_things_left := S_things_left.le (R_things_left M A_things_left D_Lots_size D_Lots_things D_Lots_multiple_of D_together)
  have D_link_things : DefOk G 12 "link_things" 2 m_link_things := S_link_things.le (R_link_things M A_link_things D_check_place D_things_left)
  have D_Lots_unit : PropOk G 3 "Lots" "unit" m_Lots_unit := R_Lots_unit M A_Lots_unit
  have D_check_number : DefOk G 6 "check_number" 1 m_check_number := S_check_number.le (R_check_number M A_check_number D_is_number)
  have D__checked : DefOk G 7 "_checked" 1 m__checked := S__checked.le (R__checked M A__checked D_check_number D_pair_of)
  have D_multiplied : DefOk G 8 "multiplied" 2 m_multiplied := S_multiplied.le (R_multiplied M A_multiplied D__checked D__reduced)
  have D_pair_weights : DefOk G 12 "pair_weights" 2 m_pair_weights := S_pair_weights.le (R_pair_weights M A_pair_weights D_check_place D_things_left D_Lots_multiple_of D_together D_Lots_unit D_multiplied)
  have D_pair_rows : DefOk G 6 "pair_rows" 2 m_pair_rows := S_pair_rows.le (R_pair_rows M A_pair_rows D_things_left D_Lots_multiple_of D_together)
  have D_masses : DefOk G 12 "masses" 2 m_masses := S_masses.le (R_masses M A_masses D_check_place D_pair_rows D_things_left D_Lots_unit D_multiplied)
  have D_local_walk : DefOk G 12 "local_walk" 2 m_local_walk := S_local_walk.le (R_local_walk M A_local_walk D_check_place D_pair_rows D_fraction)
  have D_walk_shares : DefOk G 12 "walk_shares" 2 m_walk_shares := S_walk_shares.le (R_walk_shares M A_walk_shares D_check_place D_pair_rows D_fraction)
  have D__reached : DefOk G 3 "_reached" 2 m__reached := S__reached.le (R__reached M A__reached)
  have D_pieces_of_rows : DefOk G 4 "pieces_of_rows" 1 m_pieces_of_rows := S_pieces_of_rows.le (R_pieces_of_rows M A_pieces_of_rows D__reached)
  have D_pieces : DefOk G 12 "pieces" 2 m_pieces := S_pieces.le (R_pieces M A_pieces D_check_place D_things_left D_pair_rows D_pieces_of_rows)
  have D_hangs_together : DefOk G 13 "hangs_together" 2 m_hangs_together := S_hangs_together.le (R_hangs_together M A_hangs_together D_pieces)
  have D_parting : DefOk G 13 "parting" 2 m_parting := S_parting.le (R_parting M A_parting D_pieces)
  have D_is_parting : DefOk G 12 "is_parting" 3 m_is_parting := S_is_parting.le (R_is_parting M A_is_parting D_check_place D_are_things D_things_left D_Lots_multiple_of D_together)
  have H__law_met := H__law_met M A__law_met
  have D__law_right : DefB G 16 "_law_right" 0 m__law_right := R__law_right M lk__law_right hc__law_right TB__law_right hT__law_right hu__law_right hm__law_right kp__law_right b__law_right D__law_pick D_Lots___init__ D_link_things D_pair_weights D_masses D_local_walk D_walk_shares D_hangs_together D_pieces D_parting D_is_parting H__law_met
  have D__law_dice : DefN G 3 "_law_dice" 2 m__law_dice := R__law_dice M A__law_dice
  have D_check_within : DefOk G 6 "check_within" 3 m_check_within := S_check_within.le (R_check_within M A_check_within D_is_within)
  have D_Lots_all_of : CMetOk G 13 "Lots" "all_of" 2 m_Lots_all_of := R_Lots_all_of M A_Lots_all_of D_check_within D_Lots___init__ D_parts_of
  exact (R_law M lk_law hc_law TB_law hT_law hu_law D__law_right D__law_dice D_Lots_all_of D_pieces D_masses H__law_met).imp (spTop_of hcs law_run)
end Pv.K18
namespace Pv.K18
open PySem PySem.Spec PyProof.Rows L2 Pv
open Pg (oxB oxB_ok tl_VE tl_IE tl_KE tl_RE tl_OE tl_AE)
theorem allN {α : Type} {P : α → Prop} : ∀ p ∈ ([] : List α), P p := fun p h => by cases h
theorem allC {α : Type} {P : α → Prop} {a : α} {l : List α} (x : P a) (r : ∀ p ∈ l, P p) : ∀ p ∈ a :: l, P p := fun p h => by
  cases h with
  | head => exact x
  | tail _ h => exact r p h
def tabOf (K : PySem.W.Frag) (c : Addr) : Option Addr := match K.lookup c with
  | some ⟨_, _, .fields vs, _⟩ => (match (vs[11]? : Option Value) with
    | some (.ref P) => if PySem.W.codeHdIn K c P = true then some P else none
    | _ => none)
  | _ => none
theorem tabOf_ok {K : PySem.W.Frag} {c P : Addr} (h : tabOf K c = some P) : PySem.W.codeHdIn K c P = true := by
  unfold tabOf at h
  split at h
  · split at h
    · split at h
      · rename_i e
        cases h
        exact e
      · cases h
    · cases h
  · cases h
def tabP (K : PySem.W.Frag) (c : Addr) : Addr := (tabOf K c).getD 0
def tabB (K : PySem.W.Frag) (c : Addr) (TS : List Addr) : Bool := match tabOf K c with
  | some P => (K.lookup P).isNone && TS.contains P
  | none => false
theorem tabB_ok {K : PySem.W.Frag} {c : Addr} {TS : List Addr} (h : tabB K c TS = true) : PySem.W.codeHdIn K c (tabP K c) = true ∧ K.lookup (tabP K c) = none ∧ tabP K c ∈ TS := by
  unfold tabB at h
  split at h
  · rename_i P e
    have z : tabP K c = P := by unfold tabP; rw [e]; rfl
    simp only [Bool.and_eq_true, Option.isNone_iff_eq_none, List.contains_iff_mem] at h
    rw [z]
    exact ⟨tabOf_ok e, h.1, h.2⟩
  · cases h
def xcB (K : PySem.W.Frag) (C fI : Addr) (f : Str) (nw : String) (tl : List Value) : Bool := oxB K C nw tl && (decide (PySem.W.findIn K (.ref C) f = some none) && (decide (PySem.W.findIn K (.ref C) "__init__" = some (some (.ref fI))) && decide (PySem.W.typeIn K (.ref fI) = some (.type "function"))))
theorem xcB_ok {K : PySem.W.Frag} {C fI : Addr} {f : Str} {nw : String} {tl : List Value} (h : xcB K C fI f nw tl = true) : XC K C fI f nw tl := by
  unfold xcB at h
  simp only [Bool.and_eq_true, decide_eq_true_eq] at h
  exact ⟨oxB_ok h.1, h.2.1, h.2.2.1, h.2.2.2⟩
def mk0B (K : PySem.W.Frag) (C : Addr) (nw : String) (tl : List Value) : Bool := PySem.W.excIn K C tl nw && (PySem.W.keepIn K (.ref C) && (decide (PySem.W.subIn K (.ref C) (.type "BaseException") = some true) && decide (PySem.W.typeIn K (.ref C) = some (.type "type"))))
theorem mk0B_ok {G : Wo} {C : Addr} {x : Str} {B nw ini : String} {tl : List Value} (F : PySem.ExcBaseFacts B nw ini tl) (g : G.mg x = some (.ref C)) (h : mk0B G.K C nw tl = true) : Mk0Ok G x := by
  unfold mk0B at h
  simp only [Bool.and_eq_true, decide_eq_true_eq] at h
  exact ⟨C, B, nw, ini, tl, F, h.1, g, h.2.1, h.2.2.1, h.2.2.2⟩
def xfoB (K : PySem.W.Frag) (C : Addr) (f : Str) : Bool := xfB K C && decide (PySem.W.findIn K (.ref C) f = some none)
theorem xfoB_ok {G : Wo} {C : Addr} {x f : Str} (g : G.mg x = some (.ref C)) (h : xfoB G.K C f = true) : XfOk G x f := by
  unfold xfoB at h
  simp only [Bool.and_eq_true, decide_eq_true_eq] at h
  exact ⟨C, g, xfB_ok h.1, h.2⟩
theorem MK_InvalidNumber {G : Wo} {h : Heap} (X : G.K.In h) (N : h.Ns mainGlobals G.mg) {C : Addr} (gC : PySem.W.nsIn G.K mainGlobals "InvalidNumber" = some (some (.ref C))) {fI : Addr} {od an : Option Addr} {sl : Array (Option Value)} {oc kV dc pm cd ct : Value} (li : G.K.lookup fI = some ⟨oc, od, .func (PySem.W.fnOf "__init__" "InvalidNumber.__init__" (defArgs (inCls (top 7) 0)) (defBody (inCls (top 7) 0)) (defScope (inCls (top 7) 0)) .none kV dc pm an cd ct), sl⟩) (ci : PySem.W.codeIn G.K cd "InvalidNumber.__init__" = true) (ki : PySem.W.keepIn G.K (.ref fI) = true) (xc : xcB G.K C fI "given" "IndexError.__new__" [.type "IndexError", .type "LookupError", .type "Exception", .type "BaseException", .type "object"] = true) (zb : PySem.W.nsIn G.K mainGlobals "IndexError" = some none) (vb : PySem.W.findCls G.K (.type "IndexError") (.type "type") "__init__" = some (.val (.builtin "IndexError.__init__"))) : MkOk G 1 "InvalidNumber" "given" := by
  have Fu := fun_mk (st := (inCls (top 7) 0)) li ci ki
  have bi := Fu.binds (ps := ["self", "given"]) (fun _ _ _ _ _ _ us hl => match us, hl with | [_, _], _ => rfl)
  exact mk_b PySem.F.excBase_IndexError tl_IE (xcB_ok xc) (PySem.W.mg_of X N gC) Fu ⟨rfl, rfl, rfl, by decide +kernel, rfl, by decide +kernel, by decide +kernel⟩ rfl (by first | exact Or.inl rfl | exact Or.inr (Or.inl rfl) | exact Or.inr (Or.inr rfl)) (by first | exact Or.inl rfl | exact Or.inr (Or.inl rfl) | exact Or.inr (Or.inr rfl)) (by decide) (by decide) bi rfl (PySem.W.mg_none_of X N zb) (by decide +kernel) rfl (by decide +kernel) vb (by decide +kernel) (by decide) (by decide) (fun _ => ⟨_, rfl⟩)
theorem MK_TooMany {G : Wo} {h : Heap} (X : G.K.In h) (N : h.Ns mainGlobals G.mg) {C : Addr} (gC : PySem.W.nsIn G.K mainGlobals "TooMany" = some (some (.ref C))) {fI : Addr} {od an : Option Addr} {sl : Array (Option Value)} {oc kV dc pm cd ct : Value} (li : G.K.lookup fI = some ⟨oc, od, .func (PySem.W.fnOf "__init__" "TooMany.__init__" (defArgs (inCls (top 8) 0)) (defBody (inCls (top 8) 0)) (defScope (inCls (top 8) 0)) .none kV dc pm an cd ct), sl⟩) (ci : PySem.W.codeIn G.K cd "TooMany.__init__" = true) (ki : PySem.W.keepIn G.K (.ref fI) = true) (xc : xcB G.K C fI "limit" "OverflowError.__new__" [.type "OverflowError", .type "ArithmeticError", .type "Exception", .type "BaseException", .type "object"] = true) (zb : PySem.W.nsIn G.K mainGlobals "OverflowError" = some none) (vb : PySem.W.findCls G.K (.type "OverflowError") (.type "type") "__init__" = some (.val (.builtin "OverflowError.__init__"))) : MkOk G 1 "TooMany" "limit" := by
  have Fu := fun_mk (st := (inCls (top 8) 0)) li ci ki
  have bi := Fu.binds (ps := ["self", "limit"]) (fun _ _ _ _ _ _ us hl => match us, hl with | [_, _], _ => rfl)
  exact mk_b PySem.F.excBase_OverflowError tl_OE (xcB_ok xc) (PySem.W.mg_of X N gC) Fu ⟨rfl, rfl, rfl, by decide +kernel, rfl, by decide +kernel, by decide +kernel⟩ rfl (by first | exact Or.inl rfl | exact Or.inr (Or.inl rfl) | exact Or.inr (Or.inr rfl)) (by first | exact Or.inl rfl | exact Or.inr (Or.inl rfl) | exact Or.inr (Or.inr rfl)) (by decide) (by decide) bi rfl (PySem.W.mg_none_of X N zb) (by decide +kernel) rfl (by decide +kernel) vb (by decide +kernel) (by decide) (by decide) (fun _ => ⟨_, rfl⟩)
theorem A__law_roll {K : PySem.W.Frag} {f : Addr} {od an : Option Addr} {sl : Array (Option Value)} {oc kV dc pm ct : Value} {cd : Value} (l : K.lookup f = some ⟨oc, od, .func (PySem.W.fnOf "_law_roll" "_law_roll" (defArgs s__law_roll) (defBody s__law_roll) (defScope s__law_roll) .none kV dc pm an cd ct), sl⟩) (i : PySem.W.codeIn K cd "_law_roll" = true) (p : PySem.W.keepIn K (.ref f) = true) {h : Heap} {mg : Str → Option Value} (X : K.In h) (G : h.Ns mainGlobals mg) (a : PySem.W.nsIn K mainGlobals "_law_roll" = some (some (.ref f))) (P : Program) (w : World) (base : Heap) (T : List (Addr × Str)) : DefAt ⟨P, w, K, mg, base, T⟩ s__law_roll "_law_roll" ["dice", "most"] := at_of X G (st := s__law_roll) a l i p (fun _ _ _ _ _ _ us hl => match us, hl with | [_, _], _ => rfl) P w base T
theorem A__law_pick {K : PySem.W.Frag} {f : Addr} {od an : Option Addr} {sl : Array (Option Value)} {oc kV dc pm ct : Value} {cd : Value} (l : K.lookup f = some ⟨oc, od, .func (PySem.W.fnOf "_law_pick" "_law_pick" (defArgs s__law_pick) (defBody s__law_pick) (defScope s__law_pick) .none kV dc pm an cd ct), sl⟩) (i : PySem.W.codeIn K cd "_law_pick" = true) (p : PySem.W.keepIn K (.ref f) = true) {h : Heap} {mg : Str → Option Value} (X : K.In h) (G : h.Ns mainGlobals mg) (a : PySem.W.nsIn K mainGlobals "_law_pick" = some (some (.ref f))) (P : Program) (w : World) (base : Heap) (T : List (Addr × Str)) : DefAt ⟨P, w, K, mg, base, T⟩ s__law_pick "_law_pick" ["dice", "items"] := at_of X G (st := s__law_pick) a l i p (fun _ _ _ _ _ _ us hl => match us, hl with | [_, _], _ => rfl) P w base T
theorem A__is_whole {K : PySem.W.Frag} {f : Addr} {od an : Option Addr} {sl : Array (Option Value)} {oc kV dc pm ct : Value} {cd : Value} (l : K.lookup f = some ⟨oc, od, .func (PySem.W.fnOf "_is_whole" "_is_whole" (defArgs s__is_whole) (defBody s__is_whole) (defScope s__is_whole) .none kV dc pm an cd ct), sl⟩) (i : PySem.W.codeIn K cd "_is_whole" = true) (p : PySem.W.keepIn K (.ref f) = true) {h : Heap} {mg : Str → Option Value} (X : K.In h) (G : h.Ns mainGlobals mg) (a : PySem.W.nsIn K mainGlobals "_is_whole" = some (some (.ref f))) (P : Program) (w : World) (base : Heap) (T : List (Addr × Str)) : DefAt ⟨P, w, K, mg, base, T⟩ s__is_whole "_is_whole" ["value"] := at_of X G (st := s__is_whole) a l i p (fun _ _ _ _ _ _ us hl => match us, hl with | [_], _ => rfl) P w base T
theorem A_is_integer {K : PySem.W.Frag} {f : Addr} {od an : Option Addr} {sl : Array (Option Value)} {oc kV dc pm ct : Value} {cd : Value} (l : K.lookup f = some ⟨oc, od, .func (PySem.W.fnOf "is_integer" "is_integer" (defArgs s_is_integer) (defBody s_is_integer) (defScope s_is_integer) .none kV dc pm an cd ct), sl⟩) (i : PySem.W.codeIn K cd "is_integer" = true) (p : PySem.W.keepIn K (.ref f) = true) {h : Heap} {mg : Str → Option Value} (X : K.In h) (G : h.Ns mainGlobals mg) (a : PySem.W.nsIn K mainGlobals "is_integer" = some (some (.ref f))) (P : Program) (w : World) (base : Heap) (T : List (Addr × Str)) : DefAt ⟨P, w, K, mg, base, T⟩ s_is_integer "is_integer" ["value"] := at_of X G (st := s_is_integer) a l i p (fun _ _ _ _ _ _ us hl => match us, hl with | [_], _ => rfl) P w base T
theorem A_is_within {K : PySem.W.Frag} {f : Addr} {od an : Option Addr} {sl : Array (Option Value)} {oc kV dc pm ct : Value} {cd : Value} (l : K.lookup f = some ⟨oc, od, .func (PySem.W.fnOf "is_within" "is_within" (defArgs s_is_within) (defBody s_is_within) (defScope s_is_within) .none kV dc pm an cd ct), sl⟩) (i : PySem.W.codeIn K cd "is_within" = true) (p : PySem.W.keepIn K (.ref f) = true) {h : Heap} {mg : Str → Option Value} (X : K.In h) (G : h.Ns mainGlobals mg) (a : PySem.W.nsIn K mainGlobals "is_within" = some (some (.ref f))) (P : Program) (w : World) (base : Heap) (T : List (Addr × Str)) : DefAt ⟨P, w, K, mg, base, T⟩ s_is_within "is_within" ["value", "low", "high"] := at_of X G (st := s_is_within) a l i p (fun _ _ _ _ _ _ us hl => match us, hl with | [_, _, _], _ => rfl) P w base T
theorem A_is_thing {K : PySem.W.Frag} {f : Addr} {od an : Option Addr} {sl : Array (Option Value)} {oc kV dc pm ct : Value} {cd : Value} (l : K.lookup f = some ⟨oc, od, .func (PySem.W.fnOf "is_thing" "is_thing" (defArgs s_is_thing) (defBody s_is_thing) (defScope s_is_thing) .none kV dc pm an cd ct), sl⟩) (i : PySem.W.codeIn K cd "is_thing" = true) (p : PySem.W.keepIn K (.ref f) = true) {h : Heap} {mg : Str → Option Value} (X : K.In h) (G : h.Ns mainGlobals mg) (a : PySem.W.nsIn K mainGlobals "is_thing" = some (some (.ref f))) (P : Program) (w : World) (base : Heap) (T : List (Addr × Str)) : DefAt ⟨P, w, K, mg, base, T⟩ s_is_thing "is_thing" ["value"] := at_of X G (st := s_is_thing) a l i p (fun _ _ _ _ _ _ us hl => match us, hl with | [_], _ => rfl) P w base T
theorem A_are_things {K : PySem.W.Frag} {f : Addr} {od an : Option Addr} {sl : Array (Option Value)} {oc kV dc pm ct : Value} {cd : Value} (l : K.lookup f = some ⟨oc, od, .func (PySem.W.fnOf "are_things" "are_things" (defArgs s_are_things) (defBody s_are_things) (defScope s_are_things) .none kV dc pm an cd ct), sl⟩) (i : PySem.W.codeIn K cd "are_things" = true) (p : PySem.W.keepIn K (.ref f) = true) {h : Heap} {mg : Str → Option Value} (X : K.In h) (G : h.Ns mainGlobals mg) (a : PySem.W.nsIn K mainGlobals "are_things" = some (some (.ref f))) (P : Program) (w : World) (base : Heap) (T : List (Addr × Str)) : DefAt ⟨P, w, K, mg, base, T⟩ s_are_things "are_things" ["value"] := at_of X G (st := s_are_things) a l i p (fun _ _ _ _ _ _ us hl => match us, hl with | [_], _ => rfl) P w base T
theorem A_is_lot {K : PySem.W.Frag} {f : Addr} {od an : Option Addr} {sl : Array (Option Value)} {oc kV dc pm ct : Value} {cd : Value} (l : K.lookup f = some ⟨oc, od, .func (PySem.W.fnOf "is_lot" "is_lot" (defArgs s_is_lot) (defBody s_is_lot) (defScope s_is_lot) .none kV dc pm an cd ct), sl⟩) (i : PySem.W.codeIn K cd "is_lot" = true) (p : PySem.W.keepIn K (.ref f) = true) {h : Heap} {mg : Str → Option Value} (X : K.In h) (G : h.Ns mainGlobals mg) (a : PySem.W.nsIn K mainGlobals "is_lot" = some (some (.ref f))) (P : Program) (w : World) (base : Heap) (T : List (Addr × Str)) : DefAt ⟨P, w, K, mg, base, T⟩ s_is_lot "is_lot" ["value"] := at_of X G (st := s_is_lot) a l i p (fun _ _ _ _ _ _ us hl => match us, hl with | [_], _ => rfl) P w base T
theorem A__are_different_lots {K : PySem.W.Frag} {f : Addr} {od an : Option Addr} {sl : Array (Option Value)} {oc kV dc pm ct : Value} {cd : Value} (l : K.lookup f = some ⟨oc, od, .func (PySem.W.fnOf "_are_different_lots" "_are_different_lots" (defArgs s__are_different_lots) (defBody s__are_different_lots) (defScope s__are_different_lots) .none kV dc pm an cd ct), sl⟩) (i : PySem.W.codeIn K cd "_are_different_lots" = true) (p : PySem.W.keepIn K (.ref f) = true) {h : Heap} {mg : Str → Option Value} (X : K.In h) (G : h.Ns mainGlobals mg) (a : PySem.W.nsIn K mainGlobals "_are_different_lots" = some (some (.ref f))) (P : Program) (w : World) (base : Heap) (T : List (Addr × Str)) : DefAt ⟨P, w, K, mg, base, T⟩ s__are_different_lots "_are_different_lots" ["value"] := at_of X G (st := s__are_different_lots) a l i p (fun _ _ _ _ _ _ us hl => match us, hl with | [_], _ => rfl) P w base T
theorem A_is_fraction {K : PySem.W.Frag} {f : Addr} {od an : Option Addr} {sl : Array (Option Value)} {oc kV dc pm ct : Value} {cd : Value} (l : K.lookup f = some ⟨oc, od, .func (PySem.W.fnOf "is_fraction" "is_fraction" (defArgs s_is_fraction) (defBody s_is_fraction) (defScope s_is_fraction) .none kV dc pm an cd ct), sl⟩) (i : PySem.W.codeIn K cd "is_fraction" = true) (p : PySem.W.keepIn K (.ref f) = true) {h : Heap} {mg : Str → Option Value} (X : K.In h) (G : h.Ns mainGlobals mg) (a : PySem.W.nsIn K mainGlobals "is_fraction" = some (some (.ref f))) (P : Program) (w : World) (base : Heap) (T : List (Addr × Str)) : DefAt ⟨P, w, K, mg, base, T⟩ s_is_fraction "is_fraction" ["value"] := at_of X G (st := s_is_fraction) a l i p (fun _ _ _ _ _ _ us hl => match us, hl with | [_], _ => rfl) P w base T
theorem A_is_number {K : PySem.W.Frag} {f : Addr} {od an : Option Addr} {sl : Array (Option Value)} {oc kV dc pm ct : Value} {cd : Value} (l : K.lookup f = some ⟨oc, od, .func (PySem.W.fnOf "is_number" "is_number" (defArgs s_is_number) (defBody s_is_number) (defScope s_is_number) .none kV dc pm an cd ct), sl⟩) (i : PySem.W.codeIn K cd "is_number" = true) (p : PySem.W.keepIn K (.ref f) = true) {h : Heap} {mg : Str → Option Value} (X : K.In h) (G : h.Ns mainGlobals mg) (a : PySem.W.nsIn K mainGlobals "is_number" = some (some (.ref f))) (P : Program) (w : World) (base : Heap) (T : List (Addr × Str)) : DefAt ⟨P, w, K, mg, base, T⟩ s_is_number "is_number" ["value"] := at_of X G (st := s_is_number) a l i p (fun _ _ _ _ _ _ us hl => match us, hl with | [_], _ => rfl) P w base T
theorem A_pair_of {K : PySem.W.Frag} {f : Addr} {od an : Option Addr} {sl : Array (Option Value)} {oc kV dc pm ct : Value} {cd : Value} (l : K.lookup f = some ⟨oc, od, .func (PySem.W.fnOf "pair_of" "pair_of" (defArgs s_pair_of) (defBody s_pair_of) (defScope s_pair_of) .none kV dc pm an cd ct), sl⟩) (i : PySem.W.codeIn K cd "pair_of" = true) (p : PySem.W.keepIn K (.ref f) = true) {h : Heap} {mg : Str → Option Value} (X : K.In h) (G : h.Ns mainGlobals mg) (a : PySem.W.nsIn K mainGlobals "pair_of" = some (some (.ref f))) (P : Program) (w : World) (base : Heap) (T : List (Addr × Str)) : DefAt ⟨P, w, K, mg, base, T⟩ s_pair_of "pair_of" ["number"] := at_of X G (st := s_pair_of) a l i p (fun _ _ _ _ _ _ us hl => match us, hl with | [_], _ => rfl) P w base T
theorem A_is_above_0 {K : PySem.W.Frag} {f : Addr} {od an : Option Addr} {sl : Array (Option Value)} {oc kV dc pm ct : Value} {cd : Value} (l : K.lookup f = some ⟨oc, od, .func (PySem.W.fnOf "is_above_0" "is_above_0" (defArgs s_is_above_0) (defBody s_is_above_0) (defScope s_is_above_0) .none kV dc pm an cd ct), sl⟩) (i : PySem.W.codeIn K cd "is_above_0" = true) (p : PySem.W.keepIn K (.ref f) = true) {h : Heap} {mg : Str → Option Value} (X : K.In h) (G : h.Ns mainGlobals mg) (a : PySem.W.nsIn K mainGlobals "is_above_0" = some (some (.ref f))) (P : Program) (w : World) (base : Heap) (T : List (Addr × Str)) : DefAt ⟨P, w, K, mg, base, T⟩ s_is_above_0 "is_above_0" ["value"] := at_of X G (st := s_is_above_0) a l i p (fun _ _ _ _ _ _ us hl => match us, hl with | [_], _ => rfl) P w base T
theorem A_is_lots_data {K : PySem.W.Frag} {f : Addr} {od an : Option Addr} {sl : Array (Option Value)} {oc kV dc pm ct : Value} {cd : Value} (l : K.lookup f = some ⟨oc, od, .func (PySem.W.fnOf "is_lots_data" "is_lots_data" (defArgs s_is_lots_data) (defBody s_is_lots_data) (defScope s_is_lots_data) .none kV dc pm an cd ct), sl⟩) (i : PySem.W.codeIn K cd "is_lots_data" = true) (p : PySem.W.keepIn K (.ref f) = true) {h : Heap} {mg : Str → Option Value} (X : K.In h) (G : h.Ns mainGlobals mg) (a : PySem.W.nsIn K mainGlobals "is_lots_data" = some (some (.ref f))) (P : Program) (w : World) (base : Heap) (T : List (Addr × Str)) : DefAt ⟨P, w, K, mg, base, T⟩ s_is_lots_data "is_lots_data" ["value"] := at_of X G (st := s_is_lots_data) a l i p (fun _ _ _ _ _ _ us hl => match us, hl with | [_], _ => rfl) P w base T
theorem A_whole_row {K : PySem.W.Frag} {f : Addr} {od an : Option Addr} {sl : Array (Option Value)} {oc kV dc pm ct : Value} {cd : Value} (l : K.lookup f = some ⟨oc, od, .func (PySem.W.fnOf "whole_row" "whole_row" (defArgs s_whole_row) (defBody s_whole_row) (defScope s_whole_row) .none kV dc pm an cd ct), sl⟩) (i : PySem.W.codeIn K cd "whole_row" = true) (p : PySem.W.keepIn K (.ref f) = true) {h : Heap} {mg : Str → Option Value} (X : K.In h) (G : h.Ns mainGlobals mg) (a : PySem.W.nsIn K mainGlobals "whole_row" = some (some (.ref f))) (P : Program) (w : World) (base : Heap) (T : List (Addr × Str)) : DefAt ⟨P, w, K, mg, base, T⟩ s_whole_row "whole_row" ["numbers"] := at_of X G (st := s_whole_row) a l i p (fun _ _ _ _ _ _ us hl => match us, hl with | [_], _ => rfl) P w base T
theorem A_common_divisor {K : PySem.W.Frag} {f : Addr} {od an : Option Addr} {sl : Array (Option Value)} {oc kV dc pm ct : Value} {cd : Value} (l : K.lookup f = some ⟨oc, od, .func (PySem.W.fnOf "common_divisor" "common_divisor" (defArgs s_common_divisor) (defBody s_common_divisor) (defScope s_common_divisor) .none kV dc pm an cd ct), sl⟩) (i : PySem.W.codeIn K cd "common_divisor" = true) (p : PySem.W.keepIn K (.ref f) = true) {h : Heap} {mg : Str → Option Value} (X : K.In h) (G : h.Ns mainGlobals mg) (a : PySem.W.nsIn K mainGlobals "common_divisor" = some (some (.ref f))) (P : Program) (w : World) (base : Heap) (T : List (Addr × Str)) : DefAt ⟨P, w, K, mg, base, T⟩ s_common_divisor "common_divisor" ["integers"] := at_of X G (st := s_common_divisor) a l i p (fun _ _ _ _ _ _ us hl => match us, hl with | [_], _ => rfl) P w base T
theorem A__reduced {K : PySem.W.Frag} {f : Addr} {od an : Option Addr} {sl : Array (Option Value)} {oc kV dc pm ct : Value} {cd : Value} (l : K.lookup f = some ⟨oc, od, .func (PySem.W.fnOf "_reduced" "_reduced" (defArgs s__reduced) (defBody s__reduced) (defScope s__reduced) .none kV dc pm an cd ct), sl⟩) (i : PySem.W.codeIn K cd "_reduced" = true) (p : PySem.W.keepIn K (.ref f) = true) {h : Heap} {mg : Str → Option Value} (X : K.In h) (G : h.Ns mainGlobals mg) (a : PySem.W.nsIn K mainGlobals "_reduced" = some (some (.ref f))) (P : Program) (w : World) (base : Heap) (T : List (Addr × Str)) : DefAt ⟨P, w, K, mg, base, T⟩ s__reduced "_reduced" ["top", "bottom"] := at_of X G (st := s__reduced) a l i p (fun _ _ _ _ _ _ us hl => match us, hl with | [_, _], _ => rfl) P w base T
theorem A_fraction {K : PySem.W.Frag} {f : Addr} {od an : Option Addr} {sl : Array (Option Value)} {oc kV dc pm ct : Value} {cd : Value} (l : K.lookup f = some ⟨oc, od, .func (PySem.W.fnOf "fraction" "fraction" (defArgs s_fraction) (defBody s_fraction) (defScope s_fraction) .none kV dc pm an cd ct), sl⟩) (i : PySem.W.codeIn K cd "fraction" = true) (p : PySem.W.keepIn K (.ref f) = true) {h : Heap} {mg : Str → Option Value} (X : K.In h) (G : h.Ns mainGlobals mg) (a : PySem.W.nsIn K mainGlobals "fraction" = some (some (.ref f))) (P : Program) (w : World) (base : Heap) (T : List (Addr × Str)) : DefAt ⟨P, w, K, mg, base, T⟩ s_fraction "fraction" ["top", "bottom"] := at_of X G (st := s_fraction) a l i p (fun _ _ _ _ _ _ us hl => match us, hl with | [_, _], _ => rfl) P w base T
theorem A_parts_of {K : PySem.W.Frag} {f : Addr} {od an : Option Addr} {sl : Array (Option Value)} {oc kV dc pm ct : Value} {cd : Value} (l : K.lookup f = some ⟨oc, od, .func (PySem.W.fnOf "parts_of" "parts_of" (defArgs s_parts_of) (defBody s_parts_of) (defScope s_parts_of) .none kV dc pm an cd ct), sl⟩) (i : PySem.W.codeIn K cd "parts_of" = true) (p : PySem.W.keepIn K (.ref f) = true) {h : Heap} {mg : Str → Option Value} (X : K.In h) (G : h.Ns mainGlobals mg) (a : PySem.W.nsIn K mainGlobals "parts_of" = some (some (.ref f))) (P : Program) (w : World) (base : Heap) (T : List (Addr × Str)) : DefAt ⟨P, w, K, mg, base, T⟩ s_parts_of "parts_of" ["things"] := at_of X G (st := s_parts_of) a l i p (fun _ _ _ _ _ _ us hl => match us, hl with | [_], _ => rfl) P w base T
theorem A__pin_sums {K : PySem.W.Frag} {f : Addr} {od an : Option Addr} {sl : Array (Option Value)} {oc kV dc pm ct : Value} {cd : Value} (l : K.lookup f = some ⟨oc, od, .func (PySem.W.fnOf "_pin_sums" "_pin_sums" (defArgs s__pin_sums) (defBody s__pin_sums) (defScope s__pin_sums) .none kV dc pm an cd ct), sl⟩) (i : PySem.W.codeIn K cd "_pin_sums" = true) (p : PySem.W.keepIn K (.ref f) = true) {h : Heap} {mg : Str → Option Value} (X : K.In h) (G : h.Ns mainGlobals mg) (a : PySem.W.nsIn K mainGlobals "_pin_sums" = some (some (.ref f))) (P : Program) (w : World) (base : Heap) (T : List (Addr × Str)) : DefAt ⟨P, w, K, mg, base, T⟩ s__pin_sums "_pin_sums" ["lots", "multiples"] := at_of X G (st := s__pin_sums) a l i p (fun _ _ _ _ _ _ us hl => match us, hl with | [_, _], _ => rfl) P w base T
theorem A_Lots___init__ {K : PySem.W.Frag} {f : Addr} {od an : Option Addr} {sl : Array (Option Value)} {oc kV dc pm ct : Value} {cd : Value} (l : K.lookup f = some ⟨oc, od, .func (PySem.W.fnOf "__init__" "Lots.__init__" (defArgs s_Lots___init__) (defBody s_Lots___init__) (defScope s_Lots___init__) .none kV dc pm an cd ct), sl⟩) (i : PySem.W.codeIn K cd "Lots.__init__" = true) (p : PySem.W.keepIn K (.ref f) = true) {h : Heap} {mg : Str → Option Value} (X : K.In h) (G : h.Ns mainGlobals mg) {C : Addr} (gc : PySem.W.nsIn K mainGlobals "Lots" = some (some (.ref C))) (hc : makeB K C = true) (a : PySem.W.findIn K (.ref C) "__init__" = some (some (.ref f))) (fn : PySem.W.isFn K (.ref f) = true) (P : Program) (w : World) (base : Heap) (T : List (Addr × Str)) : InitAt ⟨P, w, K, mg, base, T⟩ s_Lots___init__ "Lots" "__init__" "Lots.__init__" ["self", "weights"] := init_of X G (st := s_Lots___init__) gc hc a fn l i p (fun _ _ _ _ _ _ us hl => match us, hl with | [_, _], _ => rfl) P w base T
theorem A_check_lots {K : PySem.W.Frag} {f : Addr} {od an : Option Addr} {sl : Array (Option Value)} {oc kV dc pm ct : Value} {cd : Value} (l : K.lookup f = some ⟨oc, od, .func (PySem.W.fnOf "check_lots" "check_lots" (defArgs s_check_lots) (defBody s_check_lots) (defScope s_check_lots) .none kV dc pm an cd ct), sl⟩) (i : PySem.W.codeIn K cd "check_lots" = true) (p : PySem.W.keepIn K (.ref f) = true) {h : Heap} {mg : Str → Option Value} (X : K.In h) (G : h.Ns mainGlobals mg) (a : PySem.W.nsIn K mainGlobals "check_lots" = some (some (.ref f))) (P : Program) (w : World) (base : Heap) (T : List (Addr × Str)) : DefAt ⟨P, w, K, mg, base, T⟩ s_check_lots "check_lots" ["lots"] := at_of X G (st := s_check_lots) a l i p (fun _ _ _ _ _ _ us hl => match us, hl with | [_], _ => rfl) P w base T
theorem A_Lots_size {K : PySem.W.Frag} {f : Addr} {od an : Option Addr} {sl : Array (Option Value)} {oc kV dc pm ct : Value} {cd : Value} (l : K.lookup f = some ⟨oc, od, .func (PySem.W.fnOf "size" "Lots.size" (defArgs s_Lots_size) (defBody s_Lots_size) (defScope s_Lots_size) .none kV dc pm an cd ct), sl⟩) (i : PySem.W.codeIn K cd "Lots.size" = true) (p : PySem.W.keepIn K (.ref f) = true) {h : Heap} {mg : Str → Option Value} (X : K.In h) (G : h.Ns mainGlobals mg) {C p1 : Addr} {rest : List Value} (gc : PySem.W.nsIn K mainGlobals "Lots" = some (some (.ref C))) (hc : clsB K C = true) (a : PySem.W.findIn K (.ref C) "size" = some (some (.ref p1))) (gt : PySem.W.specialIn K (.ref p1) "__get__" = some (some (.builtin "property.__get__"))) (tk : PySem.W.takesIn K (.ref p1) = some true) (rc : PySem.W.recIn K p1 "property" = some (.ref f :: rest)) (P : Program) (w : World) (base : Heap) (T : List (Addr × Str)) : PropAt ⟨P, w, K, mg, base, T⟩ s_Lots_size "Lots" "size" "Lots.size" ["self"] := prop_of X G (st := s_Lots_size) gc hc a gt tk rc l i p (fun _ _ _ _ _ _ us hl => match us, hl with | [_], _ => rfl) P w base T
theorem A_Lots_multiple_of {K : PySem.W.Frag} {f : Addr} {od an : Option Addr} {sl : Array (Option Value)} {oc kV dc pm ct : Value} {cd : Value} (l : K.lookup f = some ⟨oc, od, .func (PySem.W.fnOf "multiple_of" "Lots.multiple_of" (defArgs s_Lots_multiple_of) (defBody s_Lots_multiple_of) (defScope s_Lots_multiple_of) .none kV dc pm an cd ct), sl⟩) (i : PySem.W.codeIn K cd "Lots.multiple_of" = true) (p : PySem.W.keepIn K (.ref f) = true) {h : Heap} {mg : Str → Option Value} (X : K.In h) (G : h.Ns mainGlobals mg) {C : Addr} (gc : PySem.W.nsIn K mainGlobals "Lots" = some (some (.ref C))) (hc : clsB K C = true) (a : PySem.W.findIn K (.ref C) "multiple_of" = some (some (.ref f))) (fn : PySem.W.isFn K (.ref f) = true) (P : Program) (w : World) (base : Heap) (T : List (Addr × Str)) : MethAt ⟨P, w, K, mg, base, T⟩ s_Lots_multiple_of "Lots" "multiple_of" "Lots.multiple_of" ["self", "things"] := meth_of X G (st := s_Lots_multiple_of) gc hc a fn l i p (fun _ _ _ _ _ _ us hl => match us, hl with | [_, _], _ => rfl) P w base T
theorem A_is_pin {K : PySem.W.Frag} {f : Addr} {od an : Option Addr} {sl : Array (Option Value)} {oc kV dc pm ct : Value} {cd : Value} (l : K.lookup f = some ⟨oc, od, .func (PySem.W.fnOf "is_pin" "is_pin" (defArgs s_is_pin) (defBody s_is_pin) (defScope s_is_pin) .none kV dc pm an cd ct), sl⟩) (i : PySem.W.codeIn K cd "is_pin" = true) (p : PySem.W.keepIn K (.ref f) = true) {h : Heap} {mg : Str → Option Value} (X : K.In h) (G : h.Ns mainGlobals mg) (a : PySem.W.nsIn K mainGlobals "is_pin" = some (some (.ref f))) (P : Program) (w : World) (base : Heap) (T : List (Addr × Str)) : DefAt ⟨P, w, K, mg, base, T⟩ s_is_pin "is_pin" ["lots", "value"] := at_of X G (st := s_is_pin) a l i p (fun _ _ _ _ _ _ us hl => match us, hl with | [_, _], _ => rfl) P w base T
theorem A_check_pin {K : PySem.W.Frag} {f : Addr} {od an : Option Addr} {sl : Array (Option Value)} {oc kV dc pm ct : Value} {cd : Value} (l : K.lookup f = some ⟨oc, od, .func (PySem.W.fnOf "check_pin" "check_pin" (defArgs s_check_pin) (defBody s_check_pin) (defScope s_check_pin) .none kV dc pm an cd ct), sl⟩) (i : PySem.W.codeIn K cd "check_pin" = true) (p : PySem.W.keepIn K (.ref f) = true) {h : Heap} {mg : Str → Option Value} (X : K.In h) (G : h.Ns mainGlobals mg) (a : PySem.W.nsIn K mainGlobals "check_pin" = some (some (.ref f))) (P : Program) (w : World) (base : Heap) (T : List (Addr × Str)) : DefAt ⟨P, w, K, mg, base, T⟩ s_check_pin "check_pin" ["lots", "pin"] := at_of X G (st := s_check_pin) a l i p (fun _ _ _ _ _ _ us hl => match us, hl with | [_, _], _ => rfl) P w base T
theorem A_check_near {K : PySem.W.Frag} {f : Addr} {od an : Option Addr} {sl : Array (Option Value)} {oc kV dc pm ct : Value} {cd : Value} (l : K.lookup f = some ⟨oc, od, .func (PySem.W.fnOf "check_near" "check_near" (defArgs s_check_near) (defBody s_check_near) (defScope s_check_near) .none kV dc pm an cd ct), sl⟩) (i : PySem.W.codeIn K cd "check_near" = true) (p : PySem.W.keepIn K (.ref f) = true) {h : Heap} {mg : Str → Option Value} (X : K.In h) (G : h.Ns mainGlobals mg) (a : PySem.W.nsIn K mainGlobals "check_near" = some (some (.ref f))) (P : Program) (w : World) (base : Heap) (T : List (Addr × Str)) : DefAt ⟨P, w, K, mg, base, T⟩ s_check_near "check_near" ["lots", "pin"] := at_of X G (st := s_check_near) a l i p (fun _ _ _ _ _ _ us hl => match us, hl with | [_, _], _ => rfl) P w base T
theorem A_check_room {K : PySem.W.Frag} {f : Addr} {od an : Option Addr} {sl : Array (Option Value)} {oc kV dc pm ct : Value} {cd : Value} (l : K.lookup f = some ⟨oc, od, .func (PySem.W.fnOf "check_room" "check_room" (defArgs s_check_room) (defBody s_check_room) (defScope s_check_room) .none kV dc pm an cd ct), sl⟩) (i : PySem.W.codeIn K cd "check_room" = true) (p : PySem.W.keepIn K (.ref f) = true) {h : Heap} {mg : Str → Option Value} (X : K.In h) (G : h.Ns mainGlobals mg) (a : PySem.W.nsIn K mainGlobals "check_room" = some (some (.ref f))) (P : Program) (w : World) (base : Heap) (T : List (Addr × Str)) : DefAt ⟨P, w, K, mg, base, T⟩ s_check_room "check_room" ["lots", "pin"] := at_of X G (st := s_check_room) a l i p (fun _ _ _ _ _ _ us hl => match us, hl with | [_, _], _ => rfl) P w base T
theorem A_check_place {K : PySem.W.Frag} {f : Addr} {od an : Option Addr} {sl : Array (Option Value)} {oc kV dc pm ct : Value} {cd : Value} (l : K.lookup f = some ⟨oc, od, .func (PySem.W.fnOf "check_place" "check_place" (defArgs s_check_place) (defBody s_check_place) (defScope s_check_place) .none kV dc pm an cd ct), sl⟩) (i : PySem.W.codeIn K cd "check_place" = true) (p : PySem.W.keepIn K (.ref f) = true) {h : Heap} {mg : Str → Option Value} (X : K.In h) (G : h.Ns mainGlobals mg) (a : PySem.W.nsIn K mainGlobals "check_place" = some (some (.ref f))) (P : Program) (w : World) (base : Heap) (T : List (Addr × Str)) : DefAt ⟨P, w, K, mg, base, T⟩ s_check_place "check_place" ["lots", "pin"] := at_of X G (st := s_check_place) a l i p (fun _ _ _ _ _ _ us hl => match us, hl with | [_, _], _ => rfl) P w base T
theorem A_Lots_things {K : PySem.W.Frag} {f : Addr} {od an : Option Addr} {sl : Array (Option Value)} {oc kV dc pm ct : Value} {cd : Value} (l : K.lookup f = some ⟨oc, od, .func (PySem.W.fnOf "things" "Lots.things" (defArgs s_Lots_things) (defBody s_Lots_things) (defScope s_Lots_things) .none kV dc pm an cd ct), sl⟩) (i : PySem.W.codeIn K cd "Lots.things" = true) (p : PySem.W.keepIn K (.ref f) = true) {h : Heap} {mg : Str → Option Value} (X : K.In h) (G : h.Ns mainGlobals mg) {C p1 : Addr} {rest : List Value} (gc : PySem.W.nsIn K mainGlobals "Lots" = some (some (.ref C))) (hc : clsB K C = true) (a : PySem.W.findIn K (.ref C) "things" = some (some (.ref p1))) (gt : PySem.W.specialIn K (.ref p1) "__get__" = some (some (.builtin "property.__get__"))) (tk : PySem.W.takesIn K (.ref p1) = some true) (rc : PySem.W.recIn K p1 "property" = some (.ref f :: rest)) (P : Program) (w : World) (base : Heap) (T : List (Addr × Str)) : PropAt ⟨P, w, K, mg, base, T⟩ s_Lots_things "Lots" "things" "Lots.things" ["self"] := prop_of X G (st := s_Lots_things) gc hc a gt tk rc l i p (fun _ _ _ _ _ _ us hl => match us, hl with | [_], _ => rfl) P w base T
theorem A_together {K : PySem.W.Frag} {f : Addr} {od an : Option Addr} {sl : Array (Option Value)} {oc kV dc pm ct : Value} {cd : Value} (l : K.lookup f = some ⟨oc, od, .func (PySem.W.fnOf "together" "together" (defArgs s_together) (defBody s_together) (defScope s_together) .none kV dc pm an cd ct), sl⟩) (i : PySem.W.codeIn K cd "together" = true) (p : PySem.W.keepIn K (.ref f) = true) {h : Heap} {mg : Str → Option Value} (X : K.In h) (G : h.Ns mainGlobals mg) (a : PySem.W.nsIn K mainGlobals "together" = some (some (.ref f))) (P : Program) (w : World) (base : Heap) (T : List (Addr × Str)) : DefAt ⟨P, w, K, mg, base, T⟩ s_together "together" ["pin", "things"] := at_of X G (st := s_together) a l i p (fun _ _ _ _ _ _ us hl => match us, hl with | [_, _], _ => rfl) P w base T
theorem A_things_left {K : PySem.W.Frag} {f : Addr} {od an : Option Addr} {sl : Array (Option Value)} {oc kV dc pm ct : Value} {cd : Value} (l : K.lookup f = some ⟨oc, od, .func (PySem.W.fnOf "things_left" "things_left" (defArgs s_things_left) (defBody s_things_left) (defScope s_things_left) .none kV dc pm an cd ct), sl⟩) (i : PySem.W.codeIn K cd "things_left" = true) (p : PySem.W.keepIn K (.ref f) = true) {h : Heap} {mg : Str → Option Value} (X : K.In h) (G : h.Ns mainGlobals mg) (a : PySem.W.nsIn K mainGlobals "things_left" = some (some (.ref f))) (P : Program) (w : World) (base : Heap) (T : List (Addr × Str)) : DefAt ⟨P, w, K, mg, base, T⟩ s_things_left "things_left" ["lots", "pin"] := at_of X G (st := s_things_left) a l i p (fun _ _ _ _ _ _ us hl => match us, hl with | [_, _], _ => rfl) P w base T
theorem A_link_things {K : PySem.W.Frag} {f : Addr} {od an : Option Addr} {sl : Array (Option Value)} {oc kV dc pm ct : Value} {cd : Value} (l : K.lookup f = some ⟨oc, od, .func (PySem.W.fnOf "link_things" "link_things" (defArgs s_link_things) (defBody s_link_things) (defScope s_link_things) .none kV dc pm an cd ct), sl⟩) (i : PySem.W.codeIn K cd "link_things" = true) (p : PySem.W.keepIn K (.ref f) = true) {h : Heap} {mg : Str → Option Value} (X : K.In h) (G : h.Ns mainGlobals mg) (a : PySem.W.nsIn K mainGlobals "link_things" = some (some (.ref f))) (P : Program) (w : World) (base : Heap) (T : List (Addr × Str)) : DefAt ⟨P, w, K, mg, base, T⟩ s_link_things "link_things" ["lots", "pin"] := at_of X G (st := s_link_things) a l i p (fun _ _ _ _ _ _ us hl => match us, hl with | [_, _], _ => rfl) P w base T
theorem A_Lots_unit {K : PySem.W.Frag} {f : Addr} {od an : Option Addr} {sl : Array (Option Value)} {oc kV dc pm ct : Value} {cd : Value} (l : K.lookup f = some ⟨oc, od, .func (PySem.W.fnOf "unit" "Lots.unit" (defArgs s_Lots_unit) (defBody s_Lots_unit) (defScope s_Lots_unit) .none kV dc pm an cd ct), sl⟩) (i : PySem.W.codeIn K cd "Lots.unit" = true) (p : PySem.W.keepIn K (.ref f) = true) {h : Heap} {mg : Str → Option Value} (X : K.In h) (G : h.Ns mainGlobals mg) {C p1 : Addr} {rest : List Value} (gc : PySem.W.nsIn K mainGlobals "Lots" = some (some (.ref C))) (hc : clsB K C = true) (a : PySem.W.findIn K (.ref C) "unit" = some (some (.ref p1))) (gt : PySem.W.specialIn K (.ref p1) "__get__" = some (some (.builtin "property.__get__"))) (tk : PySem.W.takesIn K (.ref p1) = some true) (rc : PySem.W.recIn K p1 "property" = some (.ref f :: rest)) (P : Program) (w : World) (base : Heap) (T : List (Addr × Str)) : PropAt ⟨P, w, K, mg, base, T⟩ s_Lots_unit "Lots" "unit" "Lots.unit" ["self"] := prop_of X G (st := s_Lots_unit) gc hc a gt tk rc l i p (fun _ _ _ _ _ _ us hl => match us, hl with | [_], _ => rfl) P w base T
theorem A_check_number {K : PySem.W.Frag} {f : Addr} {od an : Option Addr} {sl : Array (Option Value)} {oc kV dc pm ct : Value} {cd : Value} (l : K.lookup f = some ⟨oc, od, .func (PySem.W.fnOf "check_number" "check_number" (defArgs s_check_number) (defBody s_check_number) (defScope s_check_number) .none kV dc pm an cd ct), sl⟩) (i : PySem.W.codeIn K cd "check_number" = true) (p : PySem.W.keepIn K (.ref f) = true) {h : Heap} {mg : Str → Option Value} (X : K.In h) (G : h.Ns mainGlobals mg) (a : PySem.W.nsIn K mainGlobals "check_number" = some (some (.ref f))) (P : Program) (w : World) (base : Heap) (T : List (Addr × Str)) : DefAt ⟨P, w, K, mg, base, T⟩ s_check_number "check_number" ["value"] := at_of X G (st := s_check_number) a l i p (fun _ _ _ _ _ _ us hl => match us, hl with | [_], _ => rfl) P w base T
theorem A__checked {K : PySem.W.Frag} {f : Addr} {od an : Option Addr} {sl : Array (Option Value)} {oc kV dc pm ct : Value} {cd : Value} (l : K.lookup f = some ⟨oc, od, .func (PySem.W.fnOf "_checked" "_checked" (defArgs s__checked) (defBody s__checked) (defScope s__checked) .none kV dc pm an cd ct), sl⟩) (i : PySem.W.codeIn K cd "_checked" = true) (p : PySem.W.keepIn K (.ref f) = true) {h : Heap} {mg : Str → Option Value} (X : K.In h) (G : h.Ns mainGlobals mg) (a : PySem.W.nsIn K mainGlobals "_checked" = some (some (.ref f))) (P : Program) (w : World) (base : Heap) (T : List (Addr × Str)) : DefAt ⟨P, w, K, mg, base, T⟩ s__checked "_checked" ["number"] := at_of X G (st := s__checked) a l i p (fun _ _ _ _ _ _ us hl => match us, hl with | [_], _ => rfl) P w base T
theorem A_multiplied {K : PySem.W.Frag} {f : Addr} {od an : Option Addr} {sl : Array (Option Value)} {oc kV dc pm ct : Value} {cd : Value} (l : K.lookup f = some ⟨oc, od, .func (PySem.W.fnOf "multiplied" "multiplied" (defArgs s_multiplied) (defBody s_multiplied) (defScope s_multiplied) .none kV dc pm an cd ct), sl⟩) (i : PySem.W.codeIn K cd "multiplied" = true) (p : PySem.W.keepIn K (.ref f) = true) {h : Heap} {mg : Str → Option Value} (X : K.In h) (G : h.Ns mainGlobals mg) (a : PySem.W.nsIn K mainGlobals "multiplied" = some (some (.ref f))) (P : Program) (w : World) (base : Heap) (T : List (Addr × Str)) : DefAt ⟨P, w, K, mg, base, T⟩ s_multiplied "multiplied" ["one", "other"] := at_of X G (st := s_multiplied) a l i p (fun _ _ _ _ _ _ us hl => match us, hl with | [_, _], _ => rfl) P w base T
theorem A_pair_weights {K : PySem.W.Frag} {f : Addr} {od an : Option Addr} {sl : Array (Option Value)} {oc kV dc pm ct : Value} {cd : Value} (l : K.lookup f = some ⟨oc, od, .func (PySem.W.fnOf "pair_weights" "pair_weights" (defArgs s_pair_weights) (defBody s_pair_weights) (defScope s_pair_weights) .none kV dc pm an cd ct), sl⟩) (i : PySem.W.codeIn K cd "pair_weights" = true) (p : PySem.W.keepIn K (.ref f) = true) {h : Heap} {mg : Str → Option Value} (X : K.In h) (G : h.Ns mainGlobals mg) (a : PySem.W.nsIn K mainGlobals "pair_weights" = some (some (.ref f))) (P : Program) (w : World) (base : Heap) (T : List (Addr × Str)) : DefAt ⟨P, w, K, mg, base, T⟩ s_pair_weights "pair_weights" ["lots", "pin"] := at_of X G (st := s_pair_weights) a l i p (fun _ _ _ _ _ _ us hl => match us, hl with | [_, _], _ => rfl) P w base T
theorem A_pair_rows {K : PySem.W.Frag} {f : Addr} {od an : Option Addr} {sl : Array (Option Value)} {oc kV dc pm ct : Value} {cd : Value} (l : K.lookup f = some ⟨oc, od, .func (PySem.W.fnOf "pair_rows" "pair_rows" (defArgs s_pair_rows) (defBody s_pair_rows) (defScope s_pair_rows) .none kV dc pm an cd ct), sl⟩) (i : PySem.W.codeIn K cd "pair_rows" = true) (p : PySem.W.keepIn K (.ref f) = true) {h : Heap} {mg : Str → Option Value} (X : K.In h) (G : h.Ns mainGlobals mg) (a : PySem.W.nsIn K mainGlobals "pair_rows" = some (some (.ref f))) (P : Program) (w : World) (base : Heap) (T : List (Addr × Str)) : DefAt ⟨P, w, K, mg, base, T⟩ s_pair_rows "pair_rows" ["lots", "pin"] := at_of X G (st := s_pair_rows) a l i p (fun _ _ _ _ _ _ us hl => match us, hl with | [_, _], _ => rfl) P w base T
theorem A_masses {K : PySem.W.Frag} {f : Addr} {od an : Option Addr} {sl : Array (Option Value)} {oc kV dc pm ct : Value} {cd : Value} (l : K.lookup f = some ⟨oc, od, .func (PySem.W.fnOf "masses" "masses" (defArgs s_masses) (defBody s_masses) (defScope s_masses) .none kV dc pm an cd ct), sl⟩) (i : PySem.W.codeIn K cd "masses" = true) (p : PySem.W.keepIn K (.ref f) = true) {h : Heap} {mg : Str → Option Value} (X : K.In h) (G : h.Ns mainGlobals mg) (a : PySem.W.nsIn K mainGlobals "masses" = some (some (.ref f))) (P : Program) (w : World) (base : Heap) (T : List (Addr × Str)) : DefAt ⟨P, w, K, mg, base, T⟩ s_masses "masses" ["lots", "pin"] := at_of X G (st := s_masses) a l i p (fun _ _ _ _ _ _ us hl => match us, hl with | [_, _], _ => rfl) P w base T
theorem A_local_walk {K : PySem.W.Frag} {f : Addr} {od an : Option Addr} {sl : Array (Option Value)} {oc kV dc pm ct : Value} {cd : Value} (l : K.lookup f = some ⟨oc, od, .func (PySem.W.fnOf "local_walk" "local_walk" (defArgs s_local_walk) (defBody s_local_walk) (defScope s_local_walk) .none kV dc pm an cd ct), sl⟩) (i : PySem.W.codeIn K cd "local_walk" = true) (p : PySem.W.keepIn K (.ref f) = true) {h : Heap} {mg : Str → Option Value} (X : K.In h) (G : h.Ns mainGlobals mg) (a : PySem.W.nsIn K mainGlobals "local_walk" = some (some (.ref f))) (P : Program) (w : World) (base : Heap) (T : List (Addr × Str)) : DefAt ⟨P, w, K, mg, base, T⟩ s_local_walk "local_walk" ["lots", "pin"] := at_of X G (st := s_local_walk) a l i p (fun _ _ _ _ _ _ us hl => match us, hl with | [_, _], _ => rfl) P w base T
theorem A_walk_shares {K : PySem.W.Frag} {f : Addr} {od an : Option Addr} {sl : Array (Option Value)} {oc kV dc pm ct : Value} {cd : Value} (l : K.lookup f = some ⟨oc, od, .func (PySem.W.fnOf "walk_shares" "walk_shares" (defArgs s_walk_shares) (defBody s_walk_shares) (defScope s_walk_shares) .none kV dc pm an cd ct), sl⟩) (i : PySem.W.codeIn K cd "walk_shares" = true) (p : PySem.W.keepIn K (.ref f) = true) {h : Heap} {mg : Str → Option Value} (X : K.In h) (G : h.Ns mainGlobals mg) (a : PySem.W.nsIn K mainGlobals "walk_shares" = some (some (.ref f))) (P : Program) (w : World) (base : Heap) (T : List (Addr × Str)) : DefAt ⟨P, w, K, mg, base, T⟩ s_walk_shares "walk_shares" ["lots", "pin"] := at_of X G (st := s_walk_shares) a l i p (fun _ _ _ _ _ _ us hl => match us, hl with | [_, _], _ => rfl) P w base T
theorem A__reached {K : PySem.W.Frag} {f : Addr} {od an : Option Addr} {sl : Array (Option Value)} {oc kV dc pm ct : Value} {cd : Value} (l : K.lookup f = some ⟨oc, od, .func (PySem.W.fnOf "_reached" "_reached" (defArgs s__reached) (defBody s__reached) (defScope s__reached) .none kV dc pm an cd ct), sl⟩) (i : PySem.W.codeIn K cd "_reached" = true) (p : PySem.W.keepIn K (.ref f) = true) {h : Heap} {mg : Str → Option Value} (X : K.In h) (G : h.Ns mainGlobals mg) (a : PySem.W.nsIn K mainGlobals "_reached" = some (some (.ref f))) (P : Program) (w : World) (base : Heap) (T : List (Addr × Str)) : DefAt ⟨P, w, K, mg, base, T⟩ s__reached "_reached" ["rows", "start"] := at_of X G (st := s__reached) a l i p (fun _ _ _ _ _ _ us hl => match us, hl with | [_, _], _ => rfl) P w base T
theorem A_pieces_of_rows {K : PySem.W.Frag} {f : Addr} {od an : Option Addr} {sl : Array (Option Value)} {oc kV dc pm ct : Value} {cd : Value} (l : K.lookup f = some ⟨oc, od, .func (PySem.W.fnOf "pieces_of_rows" "pieces_of_rows" (defArgs s_pieces_of_rows) (defBody s_pieces_of_rows) (defScope s_pieces_of_rows) .none kV dc pm an cd ct), sl⟩) (i : PySem.W.codeIn K cd "pieces_of_rows" = true) (p : PySem.W.keepIn K (.ref f) = true) {h : Heap} {mg : Str → Option Value} (X : K.In h) (G : h.Ns mainGlobals mg) (a : PySem.W.nsIn K mainGlobals "pieces_of_rows" = some (some (.ref f))) (P : Program) (w : World) (base : Heap) (T : List (Addr × Str)) : DefAt ⟨P, w, K, mg, base, T⟩ s_pieces_of_rows "pieces_of_rows" ["rows"] := at_of X G (st := s_pieces_of_rows) a l i p (fun _ _ _ _ _ _ us hl => match us, hl with | [_], _ => rfl) P w base T
theorem A_pieces {K : PySem.W.Frag} {f : Addr} {od an : Option Addr} {sl : Array (Option Value)} {oc kV dc pm ct : Value} {cd : Value} (l : K.lookup f = some ⟨oc, od, .func (PySem.W.fnOf "pieces" "pieces" (defArgs s_pieces) (defBody s_pieces) (defScope s_pieces) .none kV dc pm an cd ct), sl⟩) (i : PySem.W.codeIn K cd "pieces" = true) (p : PySem.W.keepIn K (.ref f) = true) {h : Heap} {mg : Str → Option Value} (X : K.In h) (G : h.Ns mainGlobals mg) (a : PySem.W.nsIn K mainGlobals "pieces" = some (some (.ref f))) (P : Program) (w : World) (base : Heap) (T : List (Addr × Str)) : DefAt ⟨P, w, K, mg, base, T⟩ s_pieces "pieces" ["lots", "pin"] := at_of X G (st := s_pieces) a l i p (fun _ _ _ _ _ _ us hl => match us, hl with | [_, _], _ => rfl) P w base T
theorem A_hangs_together {K : PySem.W.Frag} {f : Addr} {od an : Option Addr} {sl : Array (Option Value)} {oc kV dc pm ct : Value} {cd : Value} (l : K.lookup f = some ⟨oc, od, .func (PySem.W.fnOf "hangs_together" "hangs_together" (defArgs s_hangs_together) (defBody s_hangs_together) (defScope s_hangs_together) .none kV dc pm an cd ct), sl⟩) (i : PySem.W.codeIn K cd "hangs_together" = true) (p : PySem.W.keepIn K (.ref f) = true) {h : Heap} {mg : Str → Option Value} (X : K.In h) (G : h.Ns mainGlobals mg) (a : PySem.W.nsIn K mainGlobals "hangs_together" = some (some (.ref f))) (P : Program) (w : World) (base : Heap) (T : List (Addr × Str)) : DefAt ⟨P, w, K, mg, base, T⟩ s_hangs_together "hangs_together" ["lots", "pin"] := at_of X G (st := s_hangs_together) a l i p (fun _ _ _ _ _ _ us hl => match us, hl with | [_, _], _ => rfl) P w base T
theorem A_parting {K : PySem.W.Frag} {f : Addr} {od an : Option Addr} {sl : Array (Option Value)} {oc kV dc pm ct : Value} {cd : Value} (l : K.lookup f = some ⟨oc, od, .func (PySem.W.fnOf "parting" "parting" (defArgs s_parting) (defBody s_parting) (defScope s_parting) .none kV dc pm an cd ct), sl⟩) (i : PySem.W.codeIn K cd "parting" = true) (p : PySem.W.keepIn K (.ref f) = true) {h : Heap} {mg : Str → Option Value} (X : K.In h) (G : h.Ns mainGlobals mg) (a : PySem.W.nsIn K mainGlobals "parting" = some (some (.ref f))) (P : Program) (w : World) (base : Heap) (T : List (Addr × Str)) : DefAt ⟨P, w, K, mg, base, T⟩ s_parting "parting" ["lots", "pin"] := at_of X G (st := s_parting) a l i p (fun _ _ _ _ _ _ us hl => match us, hl with | [_, _], _ => rfl) P w base T
theorem A_is_parting {K : PySem.W.Frag} {f : Addr} {od an : Option Addr} {sl : Array (Option Value)} {oc kV dc pm ct : Value} {cd : Value} (l : K.lookup f = some ⟨oc, od, .func (PySem.W.fnOf "is_parting" "is_parting" (defArgs s_is_parting) (defBody s_is_parting) (defScope s_is_parting) .none kV dc pm an cd ct), sl⟩) (i : PySem.W.codeIn K cd "is_parting" = true) (p : PySem.W.keepIn K (.ref f) = true) {h : Heap} {mg : Str → Option Value} (X : K.In h) (G : h.Ns mainGlobals mg) (a : PySem.W.nsIn K mainGlobals "is_parting" = some (some (.ref f))) (P : Program) (w : World) (base : Heap) (T : List (Addr × Str)) : DefAt ⟨P, w, K, mg, base, T⟩ s_is_parting "is_parting" ["lots", "pin", "value"] := at_of X G (st := s_is_parting) a l i p (fun _ _ _ _ _ _ us hl => match us, hl with | [_, _, _], _ => rfl) P w base T
theorem A__law_met {K : PySem.W.Frag} {f : Addr} {od an : Option Addr} {sl : Array (Option Value)} {oc kV dc pm ct : Value} {cd : Value} (l : K.lookup f = some ⟨oc, od, .func (PySem.W.fnOf "_law_met" "_law_met" (defArgs s__law_met) (defBody s__law_met) (defScope s__law_met) .none kV dc pm an cd ct), sl⟩) (i : PySem.W.codeIn K cd "_law_met" = true) (p : PySem.W.keepIn K (.ref f) = true) {h : Heap} {mg : Str → Option Value} (X : K.In h) (G : h.Ns mainGlobals mg) (a : PySem.W.nsIn K mainGlobals "_law_met" = some (some (.ref f))) (P : Program) (w : World) (base : Heap) (T : List (Addr × Str)) : DefAt ⟨P, w, K, mg, base, T⟩ s__law_met "_law_met" ["call"] := at_of X G (st := s__law_met) a l i p (fun _ _ _ _ _ _ us hl => match us, hl with | [_], _ => rfl) P w base T
theorem B__law_right {K : PySem.W.Frag} {f : Addr} {od an : Option Addr} {sl : Array (Option Value)} {oc kV dc pm ct : Value} {cd : Addr} (l : K.lookup f = some ⟨oc, od, .func (PySem.W.fnOf "_law_right" "_law_right" (defArgs s__law_right) (defBody s__law_right) (defScope s__law_right) .none kV dc pm an (.ref cd) ct), sl⟩) (i : PySem.W.codeIn K (.ref cd) "_law_right" = true) (p : PySem.W.keepIn K (.ref f) = true) : L2.Binds K (PySem.W.fnOf "_law_right" "_law_right" (defArgs s__law_right) (defBody s__law_right) (defScope s__law_right) .none kV dc pm an (.ref cd) ct) ["dice"] [] := (fun_mk (st := s__law_right) l i p).binds (fun _ _ _ _ _ _ us hl => match us, hl with | [_], _ => rfl)
theorem A__law_dice {K : PySem.W.Frag} {f : Addr} {od an : Option Addr} {sl : Array (Option Value)} {oc kV dc pm ct : Value} {cd : Value} (l : K.lookup f = some ⟨oc, od, .func (PySem.W.fnOf "_law_dice" "_law_dice" (defArgs s__law_dice) (defBody s__law_dice) (defScope s__law_dice) .none kV dc pm an cd ct), sl⟩) (i : PySem.W.codeIn K cd "_law_dice" = true) (p : PySem.W.keepIn K (.ref f) = true) {h : Heap} {mg : Str → Option Value} (X : K.In h) (G : h.Ns mainGlobals mg) (a : PySem.W.nsIn K mainGlobals "_law_dice" = some (some (.ref f))) (P : Program) (w : World) (base : Heap) (T : List (Addr × Str)) : DefAt ⟨P, w, K, mg, base, T⟩ s__law_dice "_law_dice" ["script", "spot"] := at_of X G (st := s__law_dice) a l i p (fun _ _ _ _ _ _ us hl => match us, hl with | [_, _], _ => rfl) P w base T
theorem A_check_within {K : PySem.W.Frag} {f : Addr} {od an : Option Addr} {sl : Array (Option Value)} {oc kV dc pm ct : Value} {cd : Value} (l : K.lookup f = some ⟨oc, od, .func (PySem.W.fnOf "check_within" "check_within" (defArgs s_check_within) (defBody s_check_within) (defScope s_check_within) .none kV dc pm an cd ct), sl⟩) (i : PySem.W.codeIn K cd "check_within" = true) (p : PySem.W.keepIn K (.ref f) = true) {h : Heap} {mg : Str → Option Value} (X : K.In h) (G : h.Ns mainGlobals mg) (a : PySem.W.nsIn K mainGlobals "check_within" = some (some (.ref f))) (P : Program) (w : World) (base : Heap) (T : List (Addr × Str)) : DefAt ⟨P, w, K, mg, base, T⟩ s_check_within "check_within" ["value", "low", "high"] := at_of X G (st := s_check_within) a l i p (fun _ _ _ _ _ _ us hl => match us, hl with | [_, _, _], _ => rfl) P w base T
theorem A_Lots_all_of {K : PySem.W.Frag} {f : Addr} {od an : Option Addr} {sl : Array (Option Value)} {oc kV dc pm ct : Value} {cd : Value} (l : K.lookup f = some ⟨oc, od, .func (PySem.W.fnOf "all_of" "Lots.all_of" (defArgs s_Lots_all_of) (defBody s_Lots_all_of) (defScope s_Lots_all_of) .none kV dc pm an cd ct), sl⟩) (i : PySem.W.codeIn K cd "Lots.all_of" = true) (p : PySem.W.keepIn K (.ref f) = true) {h : Heap} {mg : Str → Option Value} (X : K.In h) (G : h.Ns mainGlobals mg) {C p1 : Addr} {rest : List Value} (gc : PySem.W.nsIn K mainGlobals "Lots" = some (some (.ref C))) (hc : readB K C = true) (a : PySem.W.findCls K (.ref C) (.type "type") "all_of" = some (.get (.builtin "classmethod.__get__") (.ref p1) .none (.ref C))) (rc : PySem.W.recIn K p1 "classmethod" = some (.ref f :: rest)) (fi : PySem.W.fnIn K f = true) (P : Program) (w : World) (base : Heap) (T : List (Addr × Str)) : CMetAt ⟨P, w, K, mg, base, T⟩ s_Lots_all_of "Lots" "all_of" "Lots.all_of" ["cls", "things", "size"] := cmet_of X G (st := s_Lots_all_of) gc hc a rc fi l i p (fun _ _ _ _ _ _ us hl => match us, hl with | [_, _, _], _ => rfl) P w base T
theorem all {TS : List Addr} {l : PySem.W.OpenLaw} {w : World} {K : PySem.W.Frag} {h : Heap} {mg : Str → Option Value} {fa : Addr} (X : K.In h) (G : h.Ns mainGlobals mg) (hfa : mg "law" = some (.ref fa)) (hTb : ∀ P ∈ TS, h.get? P = some (tabO #[]))
  (z_abs : PySem.W.nsIn K mainGlobals "abs" = some none)
  (z_all : PySem.W.nsIn K mainGlobals "all" = some none)
  (z_bool : PySem.W.nsIn K mainGlobals "bool" = some none)
  (z_comb : PySem.W.nsIn K mainGlobals "comb" = some (some (.builtin "math.comb")))
  (z_dict : PySem.W.nsIn K mainGlobals "dict" = some none)
  (z_enumerate : PySem.W.nsIn K mainGlobals "enumerate" = some none)
  (z_gcd : PySem.W.nsIn K mainGlobals "gcd" = some (some (.builtin "math.gcd")))
  (z_int : PySem.W.nsIn K mainGlobals "int" = some none)
  (z_isinstance : PySem.W.nsIn K mainGlobals "isinstance" = some none)
  (z_lcm : PySem.W.nsIn K mainGlobals "lcm" = some (some (.builtin "math.lcm")))
  (z_len : PySem.W.nsIn K mainGlobals "len" = some none)
  (z_list : PySem.W.nsIn K mainGlobals "list" = some none)
  (z_max : PySem.W.nsIn K mainGlobals "max" = some none)
  (z_min : PySem.W.nsIn K mainGlobals "min" = some none)
  (z_range : PySem.W.nsIn K mainGlobals "range" = some none)
  (z_set : PySem.W.nsIn K mainGlobals "set" = some none)
  (z_sorted : PySem.W.nsIn K mainGlobals "sorted" = some none)
  (z_sum : PySem.W.nsIn K mainGlobals "sum" = some none)
  (z_tuple : PySem.W.nsIn K mainGlobals "tuple" = some none)
  (z_zip : PySem.W.nsIn K mainGlobals "zip" = some none)
  {tMAX_LOTS : Tok}
  (cMAX_LOTS : PySem.W.nsIn K mainGlobals "MAX_LOTS" = some (some (.int 40 tMAX_LOTS)))
  {tMAX_SIZE : Tok}
  (cMAX_SIZE : PySem.W.nsIn K mainGlobals "MAX_SIZE" = some (some (.int 5 tMAX_SIZE)))
  {tMAX_THING : Tok}
  (cMAX_THING : PySem.W.nsIn K mainGlobals "MAX_THING" = some (some (.int 7 tMAX_THING)))
  {t_TOO_LONG : Tok}
  (c_TOO_LONG : PySem.W.nsIn K mainGlobals "_TOO_LONG" = some (some (.int 1000000000000000000000000000000000000000000000000000000000000 t_TOO_LONG)))
  {C_InvalidLots : Addr}
  (g_InvalidLots : PySem.W.nsIn K mainGlobals "InvalidLots" = some (some (.ref C_InvalidLots)))
  {C_InvalidNumber : Addr}
  (g_InvalidNumber : PySem.W.nsIn K mainGlobals "InvalidNumber" = some (some (.ref C_InvalidNumber)))
  {C_InvalidOperation : Addr}
  (g_InvalidOperation : PySem.W.nsIn K mainGlobals "InvalidOperation" = some (some (.ref C_InvalidOperation)))
  {C_InvalidPin : Addr}
  (g_InvalidPin : PySem.W.nsIn K mainGlobals "InvalidPin" = some (some (.ref C_InvalidPin)))
  {C_TooMany : Addr}
  (g_TooMany : PySem.W.nsIn K mainGlobals "TooMany" = some (some (.ref C_TooMany)))
  {C_Lots : Addr}
  (g_Lots : PySem.W.nsIn K mainGlobals "Lots" = some (some (.ref C_Lots)))
  (cls_Lots : clsB K C_Lots = true)
  (rdb_Lots : readB K C_Lots = true)
  (mkb_Lots : makeB K C_Lots = true)
  (isi_Lots : isiB K C_Lots = true)
  (na_Lots__multiples : PySem.W.findIn K (.ref C_Lots) "_multiples" = some none)
  (na_Lots__size : PySem.W.findIn K (.ref C_Lots) "_size" = some none)
  (na_Lots__unit : PySem.W.findIn K (.ref C_Lots) "_unit" = some none)
  (na_Lots__weights : PySem.W.findIn K (.ref C_Lots) "_weights" = some none)
  (k0_InvalidLots : mk0B K C_InvalidLots "ValueError.__new__" [.type "ValueError", .type "Exception", .type "BaseException", .type "object"] = true)
  {fI_InvalidNumber : Addr} {odI_InvalidNumber anI_InvalidNumber : Option Addr} {slI_InvalidNumber : Array (Option Value)} {ocI_InvalidNumber kVI_InvalidNumber dcI_InvalidNumber pmI_InvalidNumber cdI_InvalidNumber ctI_InvalidNumber : Value}
  (fi_InvalidNumber : PySem.W.findIn K (.ref C_InvalidNumber) "__init__" = some (some (.ref fI_InvalidNumber)))
  (li_InvalidNumber : K.lookup fI_InvalidNumber = some ⟨ocI_InvalidNumber, odI_InvalidNumber, .func (PySem.W.fnOf "__init__" "InvalidNumber.__init__" (defArgs (inCls (top 7) 0)) (defBody (inCls (top 7) 0)) (defScope (inCls (top 7) 0)) .none kVI_InvalidNumber dcI_InvalidNumber pmI_InvalidNumber anI_InvalidNumber cdI_InvalidNumber ctI_InvalidNumber), slI_InvalidNumber⟩)
  (ci_InvalidNumber : PySem.W.codeIn K cdI_InvalidNumber "InvalidNumber.__init__" = true)
  (ki_InvalidNumber : PySem.W.keepIn K (.ref fI_InvalidNumber) = true)
  (xc_InvalidNumber : xcB K C_InvalidNumber fI_InvalidNumber "given" "IndexError.__new__" [.type "IndexError", .type "LookupError", .type "Exception", .type "BaseException", .type "object"] = true)
  (zb_IndexError : PySem.W.nsIn K mainGlobals "IndexError" = some none)
  (vb_InvalidNumber : PySem.W.findCls K (.type "IndexError") (.type "type") "__init__" = some (.val (.builtin "IndexError.__init__")))
  (k0_InvalidOperation : mk0B K C_InvalidOperation "ValueError.__new__" [.type "ValueError", .type "Exception", .type "BaseException", .type "object"] = true)
  (k0_InvalidPin : mk0B K C_InvalidPin "ValueError.__new__" [.type "ValueError", .type "Exception", .type "BaseException", .type "object"] = true)
  {fI_TooMany : Addr} {odI_TooMany anI_TooMany : Option Addr} {slI_TooMany : Array (Option Value)} {ocI_TooMany kVI_TooMany dcI_TooMany pmI_TooMany cdI_TooMany ctI_TooMany : Value}
  (fi_TooMany : PySem.W.findIn K (.ref C_TooMany) "__init__" = some (some (.ref fI_TooMany)))
  (li_TooMany : K.lookup fI_TooMany = some ⟨ocI_TooMany, odI_TooMany, .func (PySem.W.fnOf "__init__" "TooMany.__init__" (defArgs (inCls (top 8) 0)) (defBody (inCls (top 8) 0)) (defScope (inCls (top 8) 0)) .none kVI_TooMany dcI_TooMany pmI_TooMany anI_TooMany cdI_TooMany ctI_TooMany), slI_TooMany⟩)
  (ci_TooMany : PySem.W.codeIn K cdI_TooMany "TooMany.__init__" = true)
  (ki_TooMany : PySem.W.keepIn K (.ref fI_TooMany) = true)
  (xc_TooMany : xcB K C_TooMany fI_TooMany "limit" "OverflowError.__new__" [.type "OverflowError", .type "ArithmeticError", .type "Exception", .type "BaseException", .type "object"] = true)
  (zb_OverflowError : PySem.W.nsIn K mainGlobals "OverflowError" = some none)
  (vb_TooMany : PySem.W.findCls K (.type "OverflowError") (.type "type") "__init__" = some (.val (.builtin "OverflowError.__init__")))
  (su_InvalidLots_InvalidLots : PySem.W.exmOne K (.ref C_InvalidLots) (.ref C_InvalidLots) = some true)
  (su_InvalidLots_InvalidOperation : PySem.W.exmOne K (.ref C_InvalidLots) (.ref C_InvalidOperation) = some false)
  (su_InvalidLots_InvalidPin : PySem.W.exmOne K (.ref C_InvalidLots) (.ref C_InvalidPin) = some false)
  (su_InvalidNumber_InvalidLots : PySem.W.exmOne K (.ref C_InvalidNumber) (.ref C_InvalidLots) = some false)
  (su_InvalidNumber_InvalidOperation : PySem.W.exmOne K (.ref C_InvalidNumber) (.ref C_InvalidOperation) = some false)
  (su_InvalidNumber_InvalidPin : PySem.W.exmOne K (.ref C_InvalidNumber) (.ref C_InvalidPin) = some false)
  (su_InvalidOperation_InvalidLots : PySem.W.exmOne K (.ref C_InvalidOperation) (.ref C_InvalidLots) = some false)
  (su_InvalidOperation_InvalidOperation : PySem.W.exmOne K (.ref C_InvalidOperation) (.ref C_InvalidOperation) = some true)
  (su_InvalidOperation_InvalidPin : PySem.W.exmOne K (.ref C_InvalidOperation) (.ref C_InvalidPin) = some false)
  (su_InvalidPin_InvalidLots : PySem.W.exmOne K (.ref C_InvalidPin) (.ref C_InvalidLots) = some false)
  (su_InvalidPin_InvalidOperation : PySem.W.exmOne K (.ref C_InvalidPin) (.ref C_InvalidOperation) = some false)
  (su_InvalidPin_InvalidPin : PySem.W.exmOne K (.ref C_InvalidPin) (.ref C_InvalidPin) = some true)
  (su_TooMany_InvalidLots : PySem.W.exmOne K (.ref C_TooMany) (.ref C_InvalidLots) = some false)
  (su_TooMany_InvalidOperation : PySem.W.exmOne K (.ref C_TooMany) (.ref C_InvalidOperation) = some false)
  (su_TooMany_InvalidPin : PySem.W.exmOne K (.ref C_TooMany) (.ref C_InvalidPin) = some false)
  {f__law_roll : Addr} {od__law_roll an__law_roll : Option Addr} {sl__law_roll : Array (Option Value)} {oc__law_roll kV__law_roll dc__law_roll pm__law_roll ct__law_roll : Value} {cd__law_roll : Value}
  (a__law_roll : PySem.W.nsIn K mainGlobals "_law_roll" = some (some (.ref f__law_roll)))
  (l__law_roll : K.lookup f__law_roll = some ⟨oc__law_roll, od__law_roll, .func (PySem.W.fnOf "_law_roll" "_law_roll" (defArgs s__law_roll) (defBody s__law_roll) (defScope s__law_roll) .none kV__law_roll dc__law_roll pm__law_roll an__law_roll cd__law_roll ct__law_roll), sl__law_roll⟩)
  (i__law_roll : PySem.W.codeIn K cd__law_roll "_law_roll" = true)
  (p__law_roll : PySem.W.keepIn K (.ref f__law_roll) = true)
  {f__law_pick : Addr} {od__law_pick an__law_pick : Option Addr} {sl__law_pick : Array (Option Value)} {oc__law_pick kV__law_pick dc__law_pick pm__law_pick ct__law_pick : Value} {cd__law_pick : Value}
  (a__law_pick : PySem.W.nsIn K mainGlobals "_law_pick" = some (some (.ref f__law_pick)))
  (l__law_pick : K.lookup f__law_pick = some ⟨oc__law_pick, od__law_pick, .func (PySem.W.fnOf "_law_pick" "_law_pick" (defArgs s__law_pick) (defBody s__law_pick) (defScope s__law_pick) .none kV__law_pick dc__law_pick pm__law_pick an__law_pick cd__law_pick ct__law_pick), sl__law_pick⟩)
  (i__law_pick : PySem.W.codeIn K cd__law_pick "_law_pick" = true)
  (p__law_pick : PySem.W.keepIn K (.ref f__law_pick) = true)
  {f__is_whole : Addr} {od__is_whole an__is_whole : Option Addr} {sl__is_whole : Array (Option Value)} {oc__is_whole kV__is_whole dc__is_whole pm__is_whole ct__is_whole : Value} {cd__is_whole : Value}
  (a__is_whole : PySem.W.nsIn K mainGlobals "_is_whole" = some (some (.ref f__is_whole)))
  (l__is_whole : K.lookup f__is_whole = some ⟨oc__is_whole, od__is_whole, .func (PySem.W.fnOf "_is_whole" "_is_whole" (defArgs s__is_whole) (defBody s__is_whole) (defScope s__is_whole) .none kV__is_whole dc__is_whole pm__is_whole an__is_whole cd__is_whole ct__is_whole), sl__is_whole⟩)
  (i__is_whole : PySem.W.codeIn K cd__is_whole "_is_whole" = true)
  (p__is_whole : PySem.W.keepIn K (.ref f__is_whole) = true)
  {f_is_integer : Addr} {od_is_integer an_is_integer : Option Addr} {sl_is_integer : Array (Option Value)} {oc_is_integer kV_is_integer dc_is_integer pm_is_integer ct_is_integer : Value} {cd_is_integer : Value}
  (a_is_integer : PySem.W.nsIn K mainGlobals "is_integer" = some (some (.ref f_is_integer)))
  (l_is_integer : K.lookup f_is_integer = some ⟨oc_is_integer, od_is_integer, .func (PySem.W.fnOf "is_integer" "is_integer" (defArgs s_is_integer) (defBody s_is_integer) (defScope s_is_integer) .none kV_is_integer dc_is_integer pm_is_integer an_is_integer cd_is_integer ct_is_integer), sl_is_integer⟩)
  (i_is_integer : PySem.W.codeIn K cd_is_integer "is_integer" = true)
  (p_is_integer : PySem.W.keepIn K (.ref f_is_integer) = true)
  {f_is_within : Addr} {od_is_within an_is_within : Option Addr} {sl_is_within : Array (Option Value)} {oc_is_within kV_is_within dc_is_within pm_is_within ct_is_within : Value} {cd_is_within : Value}
  (a_is_within : PySem.W.nsIn K mainGlobals "is_within" = some (some (.ref f_is_within)))
  (l_is_within : K.lookup f_is_within = some ⟨oc_is_within, od_is_within, .func (PySem.W.fnOf "is_within" "is_within" (defArgs s_is_within) (defBody s_is_within) (defScope s_is_within) .none kV_is_within dc_is_within pm_is_within an_is_within cd_is_within ct_is_within), sl_is_within⟩)
  (i_is_within : PySem.W.codeIn K cd_is_within "is_within" = true)
  (p_is_within : PySem.W.keepIn K (.ref f_is_within) = true)
  {f_is_thing : Addr} {od_is_thing an_is_thing : Option Addr} {sl_is_thing : Array (Option Value)} {oc_is_thing kV_is_thing dc_is_thing pm_is_thing ct_is_thing : Value} {cd_is_thing : Value}
  (a_is_thing : PySem.W.nsIn K mainGlobals "is_thing" = some (some (.ref f_is_thing)))
  (l_is_thing : K.lookup f_is_thing = some ⟨oc_is_thing, od_is_thing, .func (PySem.W.fnOf "is_thing" "is_thing" (defArgs s_is_thing) (defBody s_is_thing) (defScope s_is_thing) .none kV_is_thing dc_is_thing pm_is_thing an_is_thing cd_is_thing ct_is_thing), sl_is_thing⟩)
  (i_is_thing : PySem.W.codeIn K cd_is_thing "is_thing" = true)
  (p_is_thing : PySem.W.keepIn K (.ref f_is_thing) = true)
  {f_are_things : Addr} {od_are_things an_are_things : Option Addr} {sl_are_things : Array (Option Value)} {oc_are_things kV_are_things dc_are_things pm_are_things ct_are_things : Value} {cd_are_things : Value}
  (a_are_things : PySem.W.nsIn K mainGlobals "are_things" = some (some (.ref f_are_things)))
  (l_are_things : K.lookup f_are_things = some ⟨oc_are_things, od_are_things, .func (PySem.W.fnOf "are_things" "are_things" (defArgs s_are_things) (defBody s_are_things) (defScope s_are_things) .none kV_are_things dc_are_things pm_are_things an_are_things cd_are_things ct_are_things), sl_are_things⟩)
  (i_are_things : PySem.W.codeIn K cd_are_things "are_things" = true)
  (p_are_things : PySem.W.keepIn K (.ref f_are_things) = true)
  {f_is_lot : Addr} {od_is_lot an_is_lot : Option Addr} {sl_is_lot : Array (Option Value)} {oc_is_lot kV_is_lot dc_is_lot pm_is_lot ct_is_lot : Value} {cd_is_lot : Value}
  (a_is_lot : PySem.W.nsIn K mainGlobals "is_lot" = some (some (.ref f_is_lot)))
  (l_is_lot : K.lookup f_is_lot = some ⟨oc_is_lot, od_is_lot, .func (PySem.W.fnOf "is_lot" "is_lot" (defArgs s_is_lot) (defBody s_is_lot) (defScope s_is_lot) .none kV_is_lot dc_is_lot pm_is_lot an_is_lot cd_is_lot ct_is_lot), sl_is_lot⟩)
  (i_is_lot : PySem.W.codeIn K cd_is_lot "is_lot" = true)
  (p_is_lot : PySem.W.keepIn K (.ref f_is_lot) = true)
  {f__are_different_lots : Addr} {od__are_different_lots an__are_different_lots : Option Addr} {sl__are_different_lots : Array (Option Value)} {oc__are_different_lots kV__are_different_lots dc__are_different_lots pm__are_different_lots ct__are_different_lots : Value} {cd__are_different_lots : Value}
  (a__are_different_lots : PySem.W.nsIn K mainGlobals "_are_different_lots" = some (some (.ref f__are_different_lots)))
  (l__are_different_lots : K.lookup f__are_different_lots = some ⟨oc__are_different_lots, od__are_different_lots, .func (PySem.W.fnOf "_are_different_lots" "_are_different_lots" (defArgs s__are_different_lots) (defBody s__are_different_lots) (defScope s__are_different_lots) .none kV__are_different_lots dc__are_different_lots pm__are_different_lots an__are_different_lots cd__are_different_lots ct__are_different_lots), sl__are_different_lots⟩)
  (i__are_different_lots : PySem.W.codeIn K cd__are_different_lots "_are_different_lots" = true)
  (p__are_different_lots : PySem.W.keepIn K (.ref f__are_different_lots) = true)
  {f_is_fraction : Addr} {od_is_fraction an_is_fraction : Option Addr} {sl_is_fraction : Array (Option Value)} {oc_is_fraction kV_is_fraction dc_is_fraction pm_is_fraction ct_is_fraction : Value} {cd_is_fraction : Value}
  (a_is_fraction : PySem.W.nsIn K mainGlobals "is_fraction" = some (some (.ref f_is_fraction)))
  (l_is_fraction : K.lookup f_is_fraction = some ⟨oc_is_fraction, od_is_fraction, .func (PySem.W.fnOf "is_fraction" "is_fraction" (defArgs s_is_fraction) (defBody s_is_fraction) (defScope s_is_fraction) .none kV_is_fraction dc_is_fraction pm_is_fraction an_is_fraction cd_is_fraction ct_is_fraction), sl_is_fraction⟩)
  (i_is_fraction : PySem.W.codeIn K cd_is_fraction "is_fraction" = true)
  (p_is_fraction : PySem.W.keepIn K (.ref f_is_fraction) = true)
  {f_is_number : Addr} {od_is_number an_is_number : Option Addr} {sl_is_number : Array (Option Value)} {oc_is_number kV_is_number dc_is_number pm_is_number ct_is_number : Value} {cd_is_number : Value}
  (a_is_number : PySem.W.nsIn K mainGlobals "is_number" = some (some (.ref f_is_number)))
  (l_is_number : K.lookup f_is_number = some ⟨oc_is_number, od_is_number, .func (PySem.W.fnOf "is_number" "is_number" (defArgs s_is_number) (defBody s_is_number) (defScope s_is_number) .none kV_is_number dc_is_number pm_is_number an_is_number cd_is_number ct_is_number), sl_is_number⟩)
  (i_is_number : PySem.W.codeIn K cd_is_number "is_number" = true)
  (p_is_number : PySem.W.keepIn K (.ref f_is_number) = true)
  {f_pair_of : Addr} {od_pair_of an_pair_of : Option Addr} {sl_pair_of : Array (Option Value)} {oc_pair_of kV_pair_of dc_pair_of pm_pair_of ct_pair_of : Value} {cd_pair_of : Value}
  (a_pair_of : PySem.W.nsIn K mainGlobals "pair_of" = some (some (.ref f_pair_of)))
  (l_pair_of : K.lookup f_pair_of = some ⟨oc_pair_of, od_pair_of, .func (PySem.W.fnOf "pair_of" "pair_of" (defArgs s_pair_of) (defBody s_pair_of) (defScope s_pair_of) .none kV_pair_of dc_pair_of pm_pair_of an_pair_of cd_pair_of ct_pair_of), sl_pair_of⟩)
  (i_pair_of : PySem.W.codeIn K cd_pair_of "pair_of" = true)
  (p_pair_of : PySem.W.keepIn K (.ref f_pair_of) = true)
  {f_is_above_0 : Addr} {od_is_above_0 an_is_above_0 : Option Addr} {sl_is_above_0 : Array (Option Value)} {oc_is_above_0 kV_is_above_0 dc_is_above_0 pm_is_above_0 ct_is_above_0 : Value} {cd_is_above_0 : Value}
  (a_is_above_0 : PySem.W.nsIn K mainGlobals "is_above_0" = some (some (.ref f_is_above_0)))
  (l_is_above_0 : K.lookup f_is_above_0 = some ⟨oc_is_above_0, od_is_above_0, .func (PySem.W.fnOf "is_above_0" "is_above_0" (defArgs s_is_above_0) (defBody s_is_above_0) (defScope s_is_above_0) .none kV_is_above_0 dc_is_above_0 pm_is_above_0 an_is_above_0 cd_is_above_0 ct_is_above_0), sl_is_above_0⟩)
  (i_is_above_0 : PySem.W.codeIn K cd_is_above_0 "is_above_0" = true)
  (p_is_above_0 : PySem.W.keepIn K (.ref f_is_above_0) = true)
  {f_is_lots_data : Addr} {od_is_lots_data an_is_lots_data : Option Addr} {sl_is_lots_data : Array (Option Value)} {oc_is_lots_data kV_is_lots_data dc_is_lots_data pm_is_lots_data ct_is_lots_data : Value} {cd_is_lots_data : Value}
  (a_is_lots_data : PySem.W.nsIn K mainGlobals "is_lots_data" = some (some (.ref f_is_lots_data)))
  (l_is_lots_data : K.lookup f_is_lots_data = some ⟨oc_is_lots_data, od_is_lots_data, .func (PySem.W.fnOf "is_lots_data" "is_lots_data" (defArgs s_is_lots_data) (defBody s_is_lots_data) (defScope s_is_lots_data) .none kV_is_lots_data dc_is_lots_data pm_is_lots_data an_is_lots_data cd_is_lots_data ct_is_lots_data), sl_is_lots_data⟩)
  (i_is_lots_data : PySem.W.codeIn K cd_is_lots_data "is_lots_data" = true)
  (p_is_lots_data : PySem.W.keepIn K (.ref f_is_lots_data) = true)
  {f_whole_row : Addr} {od_whole_row an_whole_row : Option Addr} {sl_whole_row : Array (Option Value)} {oc_whole_row kV_whole_row dc_whole_row pm_whole_row ct_whole_row : Value} {cd_whole_row : Value}
  (a_whole_row : PySem.W.nsIn K mainGlobals "whole_row" = some (some (.ref f_whole_row)))
  (l_whole_row : K.lookup f_whole_row = some ⟨oc_whole_row, od_whole_row, .func (PySem.W.fnOf "whole_row" "whole_row" (defArgs s_whole_row) (defBody s_whole_row) (defScope s_whole_row) .none kV_whole_row dc_whole_row pm_whole_row an_whole_row cd_whole_row ct_whole_row), sl_whole_row⟩)
  (i_whole_row : PySem.W.codeIn K cd_whole_row "whole_row" = true)
  (p_whole_row : PySem.W.keepIn K (.ref f_whole_row) = true)
  {f_common_divisor : Addr} {od_common_divisor an_common_divisor : Option Addr} {sl_common_divisor : Array (Option Value)} {oc_common_divisor kV_common_divisor dc_common_divisor pm_common_divisor ct_common_divisor : Value} {cd_common_divisor : Value}
  (a_common_divisor : PySem.W.nsIn K mainGlobals "common_divisor" = some (some (.ref f_common_divisor)))
  (l_common_divisor : K.lookup f_common_divisor = some ⟨oc_common_divisor, od_common_divisor, .func (PySem.W.fnOf "common_divisor" "common_divisor" (defArgs s_common_divisor) (defBody s_common_divisor) (defScope s_common_divisor) .none kV_common_divisor dc_common_divisor pm_common_divisor an_common_divisor cd_common_divisor ct_common_divisor), sl_common_divisor⟩)
  (i_common_divisor : PySem.W.codeIn K cd_common_divisor "common_divisor" = true)
  (p_common_divisor : PySem.W.keepIn K (.ref f_common_divisor) = true)
  {f__reduced : Addr} {od__reduced an__reduced : Option Addr} {sl__reduced : Array (Option Value)} {oc__reduced kV__reduced dc__reduced pm__reduced ct__reduced : Value} {cd__reduced : Value}
  (a__reduced : PySem.W.nsIn K mainGlobals "_reduced" = some (some (.ref f__reduced)))
  (l__reduced : K.lookup f__reduced = some ⟨oc__reduced, od__reduced, .func (PySem.W.fnOf "_reduced" "_reduced" (defArgs s__reduced) (defBody s__reduced) (defScope s__reduced) .none kV__reduced dc__reduced pm__reduced an__reduced cd__reduced ct__reduced), sl__reduced⟩)
  (i__reduced : PySem.W.codeIn K cd__reduced "_reduced" = true)
  (p__reduced : PySem.W.keepIn K (.ref f__reduced) = true)
  {f_fraction : Addr} {od_fraction an_fraction : Option Addr} {sl_fraction : Array (Option Value)} {oc_fraction kV_fraction dc_fraction pm_fraction ct_fraction : Value} {cd_fraction : Value}
  (a_fraction : PySem.W.nsIn K mainGlobals "fraction" = some (some (.ref f_fraction)))
  (l_fraction : K.lookup f_fraction = some ⟨oc_fraction, od_fraction, .func (PySem.W.fnOf "fraction" "fraction" (defArgs s_fraction) (defBody s_fraction) (defScope s_fraction) .none kV_fraction dc_fraction pm_fraction an_fraction cd_fraction ct_fraction), sl_fraction⟩)
  (i_fraction : PySem.W.codeIn K cd_fraction "fraction" = true)
  (p_fraction : PySem.W.keepIn K (.ref f_fraction) = true)
  {f_parts_of : Addr} {od_parts_of an_parts_of : Option Addr} {sl_parts_of : Array (Option Value)} {oc_parts_of kV_parts_of dc_parts_of pm_parts_of ct_parts_of : Value} {cd_parts_of : Value}
  (a_parts_of : PySem.W.nsIn K mainGlobals "parts_of" = some (some (.ref f_parts_of)))
  (l_parts_of : K.lookup f_parts_of = some ⟨oc_parts_of, od_parts_of, .func (PySem.W.fnOf "parts_of" "parts_of" (defArgs s_parts_of) (defBody s_parts_of) (defScope s_parts_of) .none kV_parts_of dc_parts_of pm_parts_of an_parts_of cd_parts_of ct_parts_of), sl_parts_of⟩)
  (i_parts_of : PySem.W.codeIn K cd_parts_of "parts_of" = true)
  (p_parts_of : PySem.W.keepIn K (.ref f_parts_of) = true)
  {f__pin_sums : Addr} {od__pin_sums an__pin_sums : Option Addr} {sl__pin_sums : Array (Option Value)} {oc__pin_sums kV__pin_sums dc__pin_sums pm__pin_sums ct__pin_sums : Value} {cd__pin_sums : Value}
  (a__pin_sums : PySem.W.nsIn K mainGlobals "_pin_sums" = some (some (.ref f__pin_sums)))
  (l__pin_sums : K.lookup f__pin_sums = some ⟨oc__pin_sums, od__pin_sums, .func (PySem.W.fnOf "_pin_sums" "_pin_sums" (defArgs s__pin_sums) (defBody s__pin_sums) (defScope s__pin_sums) .none kV__pin_sums dc__pin_sums pm__pin_sums an__pin_sums cd__pin_sums ct__pin_sums), sl__pin_sums⟩)
  (i__pin_sums : PySem.W.codeIn K cd__pin_sums "_pin_sums" = true)
  (p__pin_sums : PySem.W.keepIn K (.ref f__pin_sums) = true)
  {f_Lots___init__ : Addr} {od_Lots___init__ an_Lots___init__ : Option Addr} {sl_Lots___init__ : Array (Option Value)} {oc_Lots___init__ kV_Lots___init__ dc_Lots___init__ pm_Lots___init__ ct_Lots___init__ : Value} {cd_Lots___init__ : Value}
  (a_Lots___init__ : PySem.W.findIn K (.ref C_Lots) "__init__" = some (some (.ref f_Lots___init__)))
  (fn_Lots___init__ : PySem.W.isFn K (.ref f_Lots___init__) = true)
  (l_Lots___init__ : K.lookup f_Lots___init__ = some ⟨oc_Lots___init__, od_Lots___init__, .func (PySem.W.fnOf "__init__" "Lots.__init__" (defArgs s_Lots___init__) (defBody s_Lots___init__) (defScope s_Lots___init__) .none kV_Lots___init__ dc_Lots___init__ pm_Lots___init__ an_Lots___init__ cd_Lots___init__ ct_Lots___init__), sl_Lots___init__⟩)
  (i_Lots___init__ : PySem.W.codeIn K cd_Lots___init__ "Lots.__init__" = true)
  (p_Lots___init__ : PySem.W.keepIn K (.ref f_Lots___init__) = true)
  {f_check_lots : Addr} {od_check_lots an_check_lots : Option Addr} {sl_check_lots : Array (Option Value)} {oc_check_lots kV_check_lots dc_check_lots pm_check_lots ct_check_lots : Value} {cd_check_lots : Value}
  (a_check_lots : PySem.W.nsIn K mainGlobals "check_lots" = some (some (.ref f_check_lots)))
  (l_check_lots : K.lookup f_check_lots = some ⟨oc_check_lots, od_check_lots, .func (PySem.W.fnOf "check_lots" "check_lots" (defArgs s_check_lots) (defBody s_check_lots) (defScope s_check_lots) .none kV_check_lots dc_check_lots pm_check_lots an_check_lots cd_check_lots ct_check_lots), sl_check_lots⟩)
  (i_check_lots : PySem.W.codeIn K cd_check_lots "check_lots" = true)
  (p_check_lots : PySem.W.keepIn K (.ref f_check_lots) = true)
  {f_Lots_size : Addr} {od_Lots_size an_Lots_size : Option Addr} {sl_Lots_size : Array (Option Value)} {oc_Lots_size kV_Lots_size dc_Lots_size pm_Lots_size ct_Lots_size : Value} {cd_Lots_size : Value} {p1_Lots_size : Addr} {rest_Lots_size : List Value}
  (a_Lots_size : PySem.W.findIn K (.ref C_Lots) "size" = some (some (.ref p1_Lots_size)))
  (gt_Lots_size : PySem.W.specialIn K (.ref p1_Lots_size) "__get__" = some (some (.builtin "property.__get__")))
  (tk_Lots_size : PySem.W.takesIn K (.ref p1_Lots_size) = some true)
  (rc_Lots_size : PySem.W.recIn K p1_Lots_size "property" = some (.ref f_Lots_size :: rest_Lots_size))
  (l_Lots_size : K.lookup f_Lots_size = some ⟨oc_Lots_size, od_Lots_size, .func (PySem.W.fnOf "size" "Lots.size" (defArgs s_Lots_size) (defBody s_Lots_size) (defScope s_Lots_size) .none kV_Lots_size dc_Lots_size pm_Lots_size an_Lots_size cd_Lots_size ct_Lots_size), sl_Lots_size⟩)
  (i_Lots_size : PySem.W.codeIn K cd_Lots_size "Lots.size" = true)
  (p_Lots_size : PySem.W.keepIn K (.ref f_Lots_size) = true)
  {f_Lots_multiple_of : Addr} {od_Lots_multiple_of an_Lots_multiple_of : Option Addr} {sl_Lots_multiple_of : Array (Option Value)} {oc_Lots_multiple_of kV_Lots_multiple_of dc_Lots_multiple_of pm_Lots_multiple_of ct_Lots_multiple_of : Value} {cd_Lots_multiple_of : Value}
  (a_Lots_multiple_of : PySem.W.findIn K (.ref C_Lots) "multiple_of" = some (some (.ref f_Lots_multiple_of)))
  (fn_Lots_multiple_of : PySem.W.isFn K (.ref f_Lots_multiple_of) = true)
  (l_Lots_multiple_of : K.lookup f_Lots_multiple_of = some ⟨oc_Lots_multiple_of, od_Lots_multiple_of, .func (PySem.W.fnOf "multiple_of" "Lots.multiple_of" (defArgs s_Lots_multiple_of) (defBody s_Lots_multiple_of) (defScope s_Lots_multiple_of) .none kV_Lots_multiple_of dc_Lots_multiple_of pm_Lots_multiple_of an_Lots_multiple_of cd_Lots_multiple_of ct_Lots_multiple_of), sl_Lots_multiple_of⟩)
  (i_Lots_multiple_of : PySem.W.codeIn K cd_Lots_multiple_of "Lots.multiple_of" = true)
  (p_Lots_multiple_of : PySem.W.keepIn K (.ref f_Lots_multiple_of) = true)
  {f_is_pin : Addr} {od_is_pin an_is_pin : Option Addr} {sl_is_pin : Array (Option Value)} {oc_is_pin kV_is_pin dc_is_pin pm_is_pin ct_is_pin : Value} {cd_is_pin : Value}
  (a_is_pin : PySem.W.nsIn K mainGlobals "is_pin" = some (some (.ref f_is_pin)))
  (l_is_pin : K.lookup f_is_pin = some ⟨oc_is_pin, od_is_pin, .func (PySem.W.fnOf "is_pin" "is_pin" (defArgs s_is_pin) (defBody s_is_pin) (defScope s_is_pin) .none kV_is_pin dc_is_pin pm_is_pin an_is_pin cd_is_pin ct_is_pin), sl_is_pin⟩)
  (i_is_pin : PySem.W.codeIn K cd_is_pin "is_pin" = true)
  (p_is_pin : PySem.W.keepIn K (.ref f_is_pin) = true)
  {f_check_pin : Addr} {od_check_pin an_check_pin : Option Addr} {sl_check_pin : Array (Option Value)} {oc_check_pin kV_check_pin dc_check_pin pm_check_pin ct_check_pin : Value} {cd_check_pin : Value}
  (a_check_pin : PySem.W.nsIn K mainGlobals "check_pin" = some (some (.ref f_check_pin)))
  (l_check_pin : K.lookup f_check_pin = some ⟨oc_check_pin, od_check_pin, .func (PySem.W.fnOf "check_pin" "check_pin" (defArgs s_check_pin) (defBody s_check_pin) (defScope s_check_pin) .none kV_check_pin dc_check_pin pm_check_pin an_check_pin cd_check_pin ct_check_pin), sl_check_pin⟩)
  (i_check_pin : PySem.W.codeIn K cd_check_pin "check_pin" = true)
  (p_check_pin : PySem.W.keepIn K (.ref f_check_pin) = true)
  {f_check_near : Addr} {od_check_near an_check_near : Option Addr} {sl_check_near : Array (Option Value)} {oc_check_near kV_check_near dc_check_near pm_check_near ct_check_near : Value} {cd_check_near : Value}
  (a_check_near : PySem.W.nsIn K mainGlobals "check_near" = some (some (.ref f_check_near)))
  (l_check_near : K.lookup f_check_near = some ⟨oc_check_near, od_check_near, .func (PySem.W.fnOf "check_near" "check_near" (defArgs s_check_near) (defBody s_check_near) (defScope s_check_near) .none kV_check_near dc_check_near pm_check_near an_check_near cd_check_near ct_check_near), sl_check_near⟩)
  (i_check_near : PySem.W.codeIn K cd_check_near "check_near" = true)
  (p_check_near : PySem.W.keepIn K (.ref f_check_near) = true)
  {f_check_room : Addr} {od_check_room an_check_room : Option Addr} {sl_check_room : Array (Option Value)} {oc_check_room kV_check_room dc_check_room pm_check_room ct_check_room : Value} {cd_check_room : Value}
  (a_check_room : PySem.W.nsIn K mainGlobals "check_room" = some (some (.ref f_check_room)))
  (l_check_room : K.lookup f_check_room = some ⟨oc_check_room, od_check_room, .func (PySem.W.fnOf "check_room" "check_room" (defArgs s_check_room) (defBody s_check_room) (defScope s_check_room) .none kV_check_room dc_check_room pm_check_room an_check_room cd_check_room ct_check_room), sl_check_room⟩)
  (i_check_room : PySem.W.codeIn K cd_check_room "check_room" = true)
  (p_check_room : PySem.W.keepIn K (.ref f_check_room) = true)
  {f_check_place : Addr} {od_check_place an_check_place : Option Addr} {sl_check_place : Array (Option Value)} {oc_check_place kV_check_place dc_check_place pm_check_place ct_check_place : Value} {cd_check_place : Value}
  (a_check_place : PySem.W.nsIn K mainGlobals "check_place" = some (some (.ref f_check_place)))
  (l_check_place : K.lookup f_check_place = some ⟨oc_check_place, od_check_place, .func (PySem.W.fnOf "check_place" "check_place" (defArgs s_check_place) (defBody s_check_place) (defScope s_check_place) .none kV_check_place dc_check_place pm_check_place an_check_place cd_check_place ct_check_place), sl_check_place⟩)
  (i_check_place : PySem.W.codeIn K cd_check_place "check_place" = true)
  (p_check_place : PySem.W.keepIn K (.ref f_check_place) = true)
  {f_Lots_things : Addr} {od_Lots_things an_Lots_things : Option Addr} {sl_Lots_things : Array (Option Value)} {oc_Lots_things kV_Lots_things dc_Lots_things pm_Lots_things ct_Lots_things : Value} {cd_Lots_things : Value} {p1_Lots_things : Addr} {rest_Lots_things : List Value}
  (a_Lots_things : PySem.W.findIn K (.ref C_Lots) "things" = some (some (.ref p1_Lots_things)))
  (gt_Lots_things : PySem.W.specialIn K (.ref p1_Lots_things) "__get__" = some (some (.builtin "property.__get__")))
  (tk_Lots_things : PySem.W.takesIn K (.ref p1_Lots_things) = some true)
  (rc_Lots_things : PySem.W.recIn K p1_Lots_things "property" = some (.ref f_Lots_things :: rest_Lots_things))
  (l_Lots_things : K.lookup f_Lots_things = some ⟨oc_Lots_things, od_Lots_things, .func (PySem.W.fnOf "things" "Lots.things" (defArgs s_Lots_things) (defBody s_Lots_things) (defScope s_Lots_things) .none kV_Lots_things dc_Lots_things pm_Lots_things an_Lots_things cd_Lots_things ct_Lots_things), sl_Lots_things⟩)
  (i_Lots_things : PySem.W.codeIn K cd_Lots_things "Lots.things" = true)
  (p_Lots_things : PySem.W.keepIn K (.ref f_Lots_things) = true)
  {f_together : Addr} {od_together an_together : Option Addr} {sl_together : Array (Option Value)} {oc_together kV_together dc_together pm_together ct_together : Value} {cd_together : Value}
  (a_together : PySem.W.nsIn K mainGlobals "together" = some (some (.ref f_together)))
  (l_together : K.lookup f_together = some ⟨oc_together, od_together, .func (PySem.W.fnOf "together" "together" (defArgs s_together) (defBody s_together) (defScope s_together) .none kV_together dc_together pm_together an_together cd_together ct_together), sl_together⟩)
  (i_together : PySem.W.codeIn K cd_together "together" = true)
  (p_together : PySem.W.keepIn K (.ref f_together) = true)
  {f_things_left : Addr} {od_things_left an_things_left : Option Addr} {sl_things_left : Array (Option Value)} {oc_things_left kV_things_left dc_things_left pm_things_left ct_things_left : Value} {cd_things_left : Value}
  (a_things_left : PySem.W.nsIn K mainGlobals "things_left" = some (some (.ref f_things_left)))
  (l_things_left : K.lookup f_things_left = some ⟨oc_things_left, od_things_left, .func (PySem.W.fnOf "things_left" "things_left" (defArgs s_things_left) (defBody s_things_left) (defScope s_things_left) .none kV_things_left dc_things_left pm_things_left an_things_left cd_things_left ct_things_left), sl_things_left⟩)
  (i_things_left : PySem.W.codeIn K cd_things_left "things_left" = true)
  (p_things_left : PySem.W.keepIn K (.ref f_things_left) = true)
  {f_link_things : Addr} {od_link_things an_link_things : Option Addr} {sl_link_things : Array (Option Value)} {oc_link_things kV_link_things dc_link_things pm_link_things ct_link_things : Value} {cd_link_things : Value}
  (a_link_things : PySem.W.nsIn K mainGlobals "link_things" = some (some (.ref f_link_things)))
  (l_link_things : K.lookup f_link_things = some ⟨oc_link_things, od_link_things, .func (PySem.W.fnOf "link_things" "link_things" (defArgs s_link_things) (defBody s_link_things) (defScope s_link_things) .none kV_link_things dc_link_things pm_link_things an_link_things cd_link_things ct_link_things), sl_link_things⟩)
  (i_link_things : PySem.W.codeIn K cd_link_things "link_things" = true)
  (p_link_things : PySem.W.keepIn K (.ref f_link_things) = true)
  {f_Lots_unit : Addr} {od_Lots_unit an_Lots_unit : Option Addr} {sl_Lots_unit : Array (Option Value)} {oc_Lots_unit kV_Lots_unit dc_Lots_unit pm_Lots_unit ct_Lots_unit : Value} {cd_Lots_unit : Value} {p1_Lots_unit : Addr} {rest_Lots_unit : List Value}
  (a_Lots_unit : PySem.W.findIn K (.ref C_Lots) "unit" = some (some (.ref p1_Lots_unit)))
  (gt_Lots_unit : PySem.W.specialIn K (.ref p1_Lots_unit) "__get__" = some (some (.builtin "property.__get__")))
  (tk_Lots_unit : PySem.W.takesIn K (.ref p1_Lots_unit) = some true)
  (rc_Lots_unit : PySem.W.recIn K p1_Lots_unit "property" = some (.ref f_Lots_unit :: rest_Lots_unit))
  (l_Lots_unit : K.lookup f_Lots_unit = some ⟨oc_Lots_unit, od_Lots_unit, .func (PySem.W.fnOf "unit" "Lots.unit" (defArgs s_Lots_unit) (defBody s_Lots_unit) (defScope s_Lots_unit) .none kV_Lots_unit dc_Lots_unit pm_Lots_unit an_Lots_unit cd_Lots_unit ct_Lots_unit), sl_Lots_unit⟩)
  (i_Lots_unit : PySem.W.codeIn K cd_Lots_unit "Lots.unit" = true)
  (p_Lots_unit : PySem.W.keepIn K (.ref f_Lots_unit) = true)
  {f_check_number : Addr} {od_check_number an_check_number : Option Addr} {sl_check_number : Array (Option Value)} {oc_check_number kV_check_number dc_check_number pm_check_number ct_check_number : Value} {cd_check_number : Value}
  (a_check_number : PySem.W.nsIn K mainGlobals "check_number" = some (some (.ref f_check_number)))
  (l_check_number : K.lookup f_check_number = some ⟨oc_check_number, od_check_number, .func (PySem.W.fnOf "check_number" "check_number" (defArgs s_check_number) (defBody s_check_number) (defScope s_check_number) .none kV_check_number dc_check_number pm_check_number an_check_number cd_check_number ct_check_number), sl_check_number⟩)
  (i_check_number : PySem.W.codeIn K cd_check_number "check_number" = true)
  (p_check_number : PySem.W.keepIn K (.ref f_check_number) = true)
  {f__checked : Addr} {od__checked an__checked : Option Addr} {sl__checked : Array (Option Value)} {oc__checked kV__checked dc__checked pm__checked ct__checked : Value} {cd__checked : Value}
  (a__checked : PySem.W.nsIn K mainGlobals "_checked" = some (some (.ref f__checked)))
  (l__checked : K.lookup f__checked = some ⟨oc__checked, od__checked, .func (PySem.W.fnOf "_checked" "_checked" (defArgs s__checked) (defBody s__checked) (defScope s__checked) .none kV__checked dc__checked pm__checked an__checked cd__checked ct__checked), sl__checked⟩)
  (i__checked : PySem.W.codeIn K cd__checked "_checked" = true)
  (p__checked : PySem.W.keepIn K (.ref f__checked) = true)
  {f_multiplied : Addr} {od_multiplied an_multiplied : Option Addr} {sl_multiplied : Array (Option Value)} {oc_multiplied kV_multiplied dc_multiplied pm_multiplied ct_multiplied : Value} {cd_multiplied : Value}
  (a_multiplied : PySem.W.nsIn K mainGlobals "multiplied" = some (some (.ref f_multiplied)))
  (l_multiplied : K.lookup f_multiplied = some ⟨oc_multiplied, od_multiplied, .func (PySem.W.fnOf "multiplied" "multiplied" (defArgs s_multiplied) (defBody s_multiplied) (defScope s_multiplied) .none kV_multiplied dc_multiplied pm_multiplied an_multiplied cd_multiplied ct_multiplied), sl_multiplied⟩)
  (i_multiplied : PySem.W.codeIn K cd_multiplied "multiplied" = true)
  (p_multiplied : PySem.W.keepIn K (.ref f_multiplied) = true)
  {f_pair_weights : Addr} {od_pair_weights an_pair_weights : Option Addr} {sl_pair_weights : Array (Option Value)} {oc_pair_weights kV_pair_weights dc_pair_weights pm_pair_weights ct_pair_weights : Value} {cd_pair_weights : Value}
  (a_pair_weights : PySem.W.nsIn K mainGlobals "pair_weights" = some (some (.ref f_pair_weights)))
  (l_pair_weights : K.lookup f_pair_weights = some ⟨oc_pair_weights, od_pair_weights, .func (PySem.W.fnOf "pair_weights" "pair_weights" (defArgs s_pair_weights) (defBody s_pair_weights) (defScope s_pair_weights) .none kV_pair_weights dc_pair_weights pm_pair_weights an_pair_weights cd_pair_weights ct_pair_weights), sl_pair_weights⟩)
  (i_pair_weights : PySem.W.codeIn K cd_pair_weights "pair_weights" = true)
  (p_pair_weights : PySem.W.keepIn K (.ref f_pair_weights) = true)
  {f_pair_rows : Addr} {od_pair_rows an_pair_rows : Option Addr} {sl_pair_rows : Array (Option Value)} {oc_pair_rows kV_pair_rows dc_pair_rows pm_pair_rows ct_pair_rows : Value} {cd_pair_rows : Value}
  (a_pair_rows : PySem.W.nsIn K mainGlobals "pair_rows" = some (some (.ref f_pair_rows)))
  (l_pair_rows : K.lookup f_pair_rows = some ⟨oc_pair_rows, od_pair_rows, .func (PySem.W.fnOf "pair_rows" "pair_rows" (defArgs s_pair_rows) (defBody s_pair_rows) (defScope s_pair_rows) .none kV_pair_rows dc_pair_rows pm_pair_rows an_pair_rows cd_pair_rows ct_pair_rows), sl_pair_rows⟩)
  (i_pair_rows : PySem.W.codeIn K cd_pair_rows "pair_rows" = true)
  (p_pair_rows : PySem.W.keepIn K (.ref f_pair_rows) = true)
  {f_masses : Addr} {od_masses an_masses : Option Addr} {sl_masses : Array (Option Value)} {oc_masses kV_masses dc_masses pm_masses ct_masses : Value} {cd_masses : Value}
  (a_masses : PySem.W.nsIn K mainGlobals "masses" = some (some (.ref f_masses)))
  (l_masses : K.lookup f_masses = some ⟨oc_masses, od_masses, .func (PySem.W.fnOf "masses" "masses" (defArgs s_masses) (defBody s_masses) (defScope s_masses) .none kV_masses dc_masses pm_masses an_masses cd_masses ct_masses), sl_masses⟩)
  (i_masses : PySem.W.codeIn K cd_masses "masses" = true)
  (p_masses : PySem.W.keepIn K (.ref f_masses) = true)
  {f_local_walk : Addr} {od_local_walk an_local_walk : Option Addr} {sl_local_walk : Array (Option Value)} {oc_local_walk kV_local_walk dc_local_walk pm_local_walk ct_local_walk : Value} {cd_local_walk : Value}
  (a_local_walk : PySem.W.nsIn K mainGlobals "local_walk" = some (some (.ref f_local_walk)))
  (l_local_walk : K.lookup f_local_walk = some ⟨oc_local_walk, od_local_walk, .func (PySem.W.fnOf "local_walk" "local_walk" (defArgs s_local_walk) (defBody s_local_walk) (defScope s_local_walk) .none kV_local_walk dc_local_walk pm_local_walk an_local_walk cd_local_walk ct_local_walk), sl_local_walk⟩)
  (i_local_walk : PySem.W.codeIn K cd_local_walk "local_walk" = true)
  (p_local_walk : PySem.W.keepIn K (.ref f_local_walk) = true)
  {f_walk_shares : Addr} {od_walk_shares an_walk_shares : Option Addr} {sl_walk_shares : Array (Option Value)} {oc_walk_shares kV_walk_shares dc_walk_shares pm_walk_shares ct_walk_shares : Value} {cd_walk_shares : Value}
  (a_walk_shares : PySem.W.nsIn K mainGlobals "walk_shares" = some (some (.ref f_walk_shares)))
  (l_walk_shares : K.lookup f_walk_shares = some ⟨oc_walk_shares, od_walk_shares, .func (PySem.W.fnOf "walk_shares" "walk_shares" (defArgs s_walk_shares) (defBody s_walk_shares) (defScope s_walk_shares) .none kV_walk_shares dc_walk_shares pm_walk_shares an_walk_shares cd_walk_shares ct_walk_shares), sl_walk_shares⟩)
  (i_walk_shares : PySem.W.codeIn K cd_walk_shares "walk_shares" = true)
  (p_walk_shares : PySem.W.keepIn K (.ref f_walk_shares) = true)
  {f__reached : Addr} {od__reached an__reached : Option Addr} {sl__reached : Array (Option Value)} {oc__reached kV__reached dc__reached pm__reached ct__reached : Value} {cd__reached : Value}
  (a__reached : PySem.W.nsIn K mainGlobals "_reached" = some (some (.ref f__reached)))
  (l__reached : K.lookup f__reached = some ⟨oc__reached, od__reached, .func (PySem.W.fnOf "_reached" "_reached" (defArgs s__reached) (defBody s__reached) (defScope s__reached) .none kV__reached dc__reached pm__reached an__reached cd__reached ct__reached), sl__reached⟩)
  (i__reached : PySem.W.codeIn K cd__reached "_reached" = true)
  (p__reached : PySem.W.keepIn K (.ref f__reached) = true)
  {f_pieces_of_rows : Addr} {od_pieces_of_rows an_pieces_of_rows : Option Addr} {sl_pieces_of_rows : Array (Option Value)} {oc_pieces_of_rows kV_pieces_of_rows dc_pieces_of_rows pm_pieces_of_rows ct_pieces_of_rows : Value} {cd_pieces_of_rows : Value}
  (a_pieces_of_rows : PySem.W.nsIn K mainGlobals "pieces_of_rows" = some (some (.ref f_pieces_of_rows)))
  (l_pieces_of_rows : K.lookup f_pieces_of_rows = some ⟨oc_pieces_of_rows, od_pieces_of_rows, .func (PySem.W.fnOf "pieces_of_rows" "pieces_of_rows" (defArgs s_pieces_of_rows) (defBody s_pieces_of_rows) (defScope s_pieces_of_rows) .none kV_pieces_of_rows dc_pieces_of_rows pm_pieces_of_rows an_pieces_of_rows cd_pieces_of_rows ct_pieces_of_rows), sl_pieces_of_rows⟩)
  (i_pieces_of_rows : PySem.W.codeIn K cd_pieces_of_rows "pieces_of_rows" = true)
  (p_pieces_of_rows : PySem.W.keepIn K (.ref f_pieces_of_rows) = true)
  {f_pieces : Addr} {od_pieces an_pieces : Option Addr} {sl_pieces : Array (Option Value)} {oc_pieces kV_pieces dc_pieces pm_pieces ct_pieces : Value} {cd_pieces : Value}
  (a_pieces : PySem.W.nsIn K mainGlobals "pieces" = some (some (.ref f_pieces)))
  (l_pieces : K.lookup f_pieces = some ⟨oc_pieces, od_pieces, .func (PySem.W.fnOf "pieces" "pieces" (defArgs s_pieces) (defBody s_pieces) (defScope s_pieces) .none kV_pieces dc_pieces pm_pieces an_pieces cd_pieces ct_pieces), sl_pieces⟩)
  (i_pieces : PySem.W.codeIn K cd_pieces "pieces" = true)
  (p_pieces : PySem.W.keepIn K (.ref f_pieces) = true)
  {f_hangs_together : Addr} {od_hangs_together an_hangs_together : Option Addr} {sl_hangs_together : Array (Option Value)} {oc_hangs_together kV_hangs_together dc_hangs_together pm_hangs_together ct_hangs_together : Value} {cd_hangs_together : Value}
  (a_hangs_together : PySem.W.nsIn K mainGlobals "hangs_together" = some (some (.ref f_hangs_together)))
  (l_hangs_together : K.lookup f_hangs_together = some ⟨oc_hangs_together, od_hangs_together, .func (PySem.W.fnOf "hangs_together" "hangs_together" (defArgs s_hangs_together) (defBody s_hangs_together) (defScope s_hangs_together) .none kV_hangs_together dc_hangs_together pm_hangs_together an_hangs_together cd_hangs_together ct_hangs_together), sl_hangs_together⟩)
  (i_hangs_together : PySem.W.codeIn K cd_hangs_together "hangs_together" = true)
  (p_hangs_together : PySem.W.keepIn K (.ref f_hangs_together) = true)
  {f_parting : Addr} {od_parting an_parting : Option Addr} {sl_parting : Array (Option Value)} {oc_parting kV_parting dc_parting pm_parting ct_parting : Value} {cd_parting : Value}
  (a_parting : PySem.W.nsIn K mainGlobals "parting" = some (some (.ref f_parting)))
  (l_parting : K.lookup f_parting = some ⟨oc_parting, od_parting, .func (PySem.W.fnOf "parting" "parting" (defArgs s_parting) (defBody s_parting) (defScope s_parting) .none kV_parting dc_parting pm_parting an_parting cd_parting ct_parting), sl_parting⟩)
  (i_parting : PySem.W.codeIn K cd_parting "parting" = true)
  (p_parting : PySem.W.keepIn K (.ref f_parting) = true)
  {f_is_parting : Addr} {od_is_parting an_is_parting : Option Addr} {sl_is_parting : Array (Option Value)} {oc_is_parting kV_is_parting dc_is_parting pm_is_parting ct_is_parting : Value} {cd_is_parting : Value}
  (a_is_parting : PySem.W.nsIn K mainGlobals "is_parting" = some (some (.ref f_is_parting)))
  (l_is_parting : K.lookup f_is_parting = some ⟨oc_is_parting, od_is_parting, .func (PySem.W.fnOf "is_parting" "is_parting" (defArgs s_is_parting) (defBody s_is_parting) (defScope s_is_parting) .none kV_is_parting dc_is_parting pm_is_parting an_is_parting cd_is_parting ct_is_parting), sl_is_parting⟩)
  (i_is_parting : PySem.W.codeIn K cd_is_parting "is_parting" = true)
  (p_is_parting : PySem.W.keepIn K (.ref f_is_parting) = true)
  {f__law_met : Addr} {od__law_met an__law_met : Option Addr} {sl__law_met : Array (Option Value)} {oc__law_met kV__law_met dc__law_met pm__law_met ct__law_met : Value} {cd__law_met : Value}
  (a__law_met : PySem.W.nsIn K mainGlobals "_law_met" = some (some (.ref f__law_met)))
  (l__law_met : K.lookup f__law_met = some ⟨oc__law_met, od__law_met, .func (PySem.W.fnOf "_law_met" "_law_met" (defArgs s__law_met) (defBody s__law_met) (defScope s__law_met) .none kV__law_met dc__law_met pm__law_met an__law_met cd__law_met ct__law_met), sl__law_met⟩)
  (i__law_met : PySem.W.codeIn K cd__law_met "_law_met" = true)
  (p__law_met : PySem.W.keepIn K (.ref f__law_met) = true)
  {f__law_right : Addr} {od__law_right an__law_right : Option Addr} {sl__law_right : Array (Option Value)} {oc__law_right kV__law_right dc__law_right pm__law_right ct__law_right : Value} {cd__law_right : Addr}
  (a__law_right : PySem.W.nsIn K mainGlobals "_law_right" = some (some (.ref f__law_right)))
  (l__law_right : K.lookup f__law_right = some ⟨oc__law_right, od__law_right, .func (PySem.W.fnOf "_law_right" "_law_right" (defArgs s__law_right) (defBody s__law_right) (defScope s__law_right) .none kV__law_right dc__law_right pm__law_right an__law_right (.ref cd__law_right) ct__law_right), sl__law_right⟩)
  (i__law_right : PySem.W.codeIn K (.ref cd__law_right) "_law_right" = true)
  (p__law_right : PySem.W.keepIn K (.ref f__law_right) = true)
  (t__law_right : tabB K cd__law_right TS = true)
  {f__law_dice : Addr} {od__law_dice an__law_dice : Option Addr} {sl__law_dice : Array (Option Value)} {oc__law_dice kV__law_dice dc__law_dice pm__law_dice ct__law_dice : Value} {cd__law_dice : Value}
  (a__law_dice : PySem.W.nsIn K mainGlobals "_law_dice" = some (some (.ref f__law_dice)))
  (l__law_dice : K.lookup f__law_dice = some ⟨oc__law_dice, od__law_dice, .func (PySem.W.fnOf "_law_dice" "_law_dice" (defArgs s__law_dice) (defBody s__law_dice) (defScope s__law_dice) .none kV__law_dice dc__law_dice pm__law_dice an__law_dice cd__law_dice ct__law_dice), sl__law_dice⟩)
  (i__law_dice : PySem.W.codeIn K cd__law_dice "_law_dice" = true)
  (p__law_dice : PySem.W.keepIn K (.ref f__law_dice) = true)
  {f_check_within : Addr} {od_check_within an_check_within : Option Addr} {sl_check_within : Array (Option Value)} {oc_check_within kV_check_within dc_check_within pm_check_within ct_check_within : Value} {cd_check_within : Value}
  (a_check_within : PySem.W.nsIn K mainGlobals "check_within" = some (some (.ref f_check_within)))
  (l_check_within : K.lookup f_check_within = some ⟨oc_check_within, od_check_within, .func (PySem.W.fnOf "check_within" "check_within" (defArgs s_check_within) (defBody s_check_within) (defScope s_check_within) .none kV_check_within dc_check_within pm_check_within an_check_within cd_check_within ct_check_within), sl_check_within⟩)
  (i_check_within : PySem.W.codeIn K cd_check_within "check_within" = true)
  (p_check_within : PySem.W.keepIn K (.ref f_check_within) = true)
  {f_Lots_all_of : Addr} {od_Lots_all_of an_Lots_all_of : Option Addr} {sl_Lots_all_of : Array (Option Value)} {oc_Lots_all_of kV_Lots_all_of dc_Lots_all_of pm_Lots_all_of ct_Lots_all_of : Value} {cd_Lots_all_of : Value} {p1_Lots_all_of : Addr} {rest_Lots_all_of : List Value}
  (a_Lots_all_of : PySem.W.findCls K (.ref C_Lots) (.type "type") "all_of" = some (.get (.builtin "classmethod.__get__") (.ref p1_Lots_all_of) .none (.ref C_Lots)))
  (rc_Lots_all_of : PySem.W.recIn K p1_Lots_all_of "classmethod" = some (.ref f_Lots_all_of :: rest_Lots_all_of))
  (fi_Lots_all_of : PySem.W.fnIn K f_Lots_all_of = true)
  (l_Lots_all_of : K.lookup f_Lots_all_of = some ⟨oc_Lots_all_of, od_Lots_all_of, .func (PySem.W.fnOf "all_of" "Lots.all_of" (defArgs s_Lots_all_of) (defBody s_Lots_all_of) (defScope s_Lots_all_of) .none kV_Lots_all_of dc_Lots_all_of pm_Lots_all_of an_Lots_all_of cd_Lots_all_of ct_Lots_all_of), sl_Lots_all_of⟩)
  (i_Lots_all_of : PySem.W.codeIn K cd_Lots_all_of "Lots.all_of" = true)
  (p_Lots_all_of : PySem.W.keepIn K (.ref f_Lots_all_of) = true)
  {f_law : Addr} {od_law an_law : Option Addr} {sl_law : Array (Option Value)} {oc_law kV_law dc_law pm_law ct_law : Value} {cd_law : Addr}
  (a_law : PySem.W.nsIn K mainGlobals "law" = some (some (.ref f_law)))
  (l_law : K.lookup f_law = some ⟨oc_law, od_law, .func (PySem.W.fnOf "law" "law" (defArgs s_law) (defBody s_law) (defScope s_law) .none kV_law dc_law pm_law an_law (.ref cd_law) ct_law), sl_law⟩)
  (i_law : PySem.W.codeIn K (.ref cd_law) "law" = true)
  (p_law : PySem.W.keepIn K (.ref f_law) = true)
  (t_law : tabB K cd_law TS = true)
  (ne__law_right_law : (tabP K cd__law_right == tabP K cd_law) = false) :
  ∃ (fd : FuncData) (cs : List (Addr × Addr)), ((∀ p ∈ cs, h.get? p.2 = some (tabO #[])) ∧ (∀ p ∈ cs, K.lookup p.2 = none) ∧ ∀ p ∈ cs, PySem.W.CodeHd h p.1 p.2) ∧ (∀ (s : Shared) (v : Value), BindsTo s fd ⟨[v], []⟩ [("script", v)]) ∧ ∀ base : Heap, K.In base → base.Ns mainGlobals mg → (∀ p ∈ cs, LamX.TabB base mg p.1 p.2) → FnG l.prog w K mg base (L2.CX l.prog w) 19 fa fd ["script"] (spTop K cs) := by
  have e := hfa.symm.trans (PySem.W.mg_of X G a_law)
  cases e
  refine ⟨PySem.W.fnOf "law" "law" (defArgs s_law) (defBody s_law) (defScope s_law) .none kV_law dc_law pm_law an_law (.ref cd_law) ct_law, [(cd__law_right, tabP K cd__law_right), (cd_law, tabP K cd_law)], ⟨fun p hp => ?_, fun p hp => ?_, fun p hp => ?_⟩, fun s v => .of_eq rfl, fun base _ _ hB => ?_⟩
  · exact (allC (P := fun p : Addr × Addr => h.get? p.2 = some (tabO #[])) (hTb _ (tabB_ok t__law_right).2.2) (allC (P := fun p : Addr × Addr => h.get? p.2 = some (tabO #[])) (hTb _ (tabB_ok t_law).2.2) allN)) p hp
  · exact (allC (P := fun p : Addr × Addr => K.lookup p.2 = none) ((tabB_ok t__law_right).2.1) (allC (P := fun p : Addr × Addr => K.lookup p.2 = none) ((tabB_ok t_law).2.1) allN)) p hp
  · exact (allC (P := fun p : Addr × Addr => PySem.W.CodeHd h p.1 p.2) (PySem.W.codeHd_of_K X (tabB_ok t__law_right).1) (allC (P := fun p : Addr × Addr => PySem.W.CodeHd h p.1 p.2) (PySem.W.codeHd_of_K X (tabB_ok t_law).1) allN)) p hp
  let GG : Wo := ⟨l.prog, w, K, mg, base, [(tabP K cd__law_right, (("_law_right.<locals>." : Str) ++ "<lambda>")), (tabP K cd_law, (("law.<locals>." : Str) ++ "<lambda>"))]⟩
  have M_n_abs := PySem.W.mg_none_of X G z_abs
  have M_n_all := PySem.W.mg_none_of X G z_all
  have M_n_bool := PySem.W.mg_none_of X G z_bool
  have M_n_comb := PySem.W.mg_of X G z_comb
  have M_n_dict := PySem.W.mg_none_of X G z_dict
  have M_n_enumerate := PySem.W.mg_none_of X G z_enumerate
  have M_n_gcd := PySem.W.mg_of X G z_gcd
  have M_n_int := PySem.W.mg_none_of X G z_int
  have M_n_isinstance := PySem.W.mg_none_of X G z_isinstance
  have M_n_lcm := PySem.W.mg_of X G z_lcm
  have M_n_len := PySem.W.mg_none_of X G z_len
  have M_n_list := PySem.W.mg_none_of X G z_list
  have M_n_max := PySem.W.mg_none_of X G z_max
  have M_n_min := PySem.W.mg_none_of X G z_min
  have M_n_range := PySem.W.mg_none_of X G z_range
  have M_n_set := PySem.W.mg_none_of X G z_set
  have M_n_sorted := PySem.W.mg_none_of X G z_sorted
  have M_n_sum := PySem.W.mg_none_of X G z_sum
  have M_n_tuple := PySem.W.mg_none_of X G z_tuple
  have M_n_zip := PySem.W.mg_none_of X G z_zip
  have M_k_InvalidLots := mk0B_ok (G := GG) PySem.F.excBase_ValueError (PySem.W.mg_of X G g_InvalidLots) k0_InvalidLots
  have M_k_InvalidNumber := MK_InvalidNumber (G := GG) X G g_InvalidNumber li_InvalidNumber ci_InvalidNumber ki_InvalidNumber xc_InvalidNumber zb_IndexError vb_InvalidNumber
  have M_k_InvalidOperation := mk0B_ok (G := GG) PySem.F.excBase_ValueError (PySem.W.mg_of X G g_InvalidOperation) k0_InvalidOperation
  have M_k_InvalidPin := mk0B_ok (G := GG) PySem.F.excBase_ValueError (PySem.W.mg_of X G g_InvalidPin) k0_InvalidPin
  have M_k_TooMany := MK_TooMany (G := GG) X G g_TooMany li_TooMany ci_TooMany ki_TooMany xc_TooMany zb_OverflowError vb_TooMany
  have M_sub := subT_ok (G := GG) (l := SUBL) (fun t ht => by
    unfold SUBL at ht
    simp only [List.mem_cons, List.not_mem_nil, or_false] at ht
    rcases ht with rfl | rfl | rfl | rfl | rfl | rfl | rfl | rfl | rfl | rfl | rfl | rfl | rfl | rfl | rfl
    · exact ⟨_, _, PySem.W.mg_of X G g_InvalidLots, PySem.W.mg_of X G g_InvalidLots, su_InvalidLots_InvalidLots⟩
    · exact ⟨_, _, PySem.W.mg_of X G g_InvalidLots, PySem.W.mg_of X G g_InvalidOperation, su_InvalidLots_InvalidOperation⟩
    · exact ⟨_, _, PySem.W.mg_of X G g_InvalidLots, PySem.W.mg_of X G g_InvalidPin, su_InvalidLots_InvalidPin⟩
    · exact ⟨_, _, PySem.W.mg_of X G g_InvalidNumber, PySem.W.mg_of X G g_InvalidLots, su_InvalidNumber_InvalidLots⟩
    · exact ⟨_, _, PySem.W.mg_of X G g_InvalidNumber, PySem.W.mg_of X G g_InvalidOperation, su_InvalidNumber_InvalidOperation⟩
    · exact ⟨_, _, PySem.W.mg_of X G g_InvalidNumber, PySem.W.mg_of X G g_InvalidPin, su_InvalidNumber_InvalidPin⟩
    · exact ⟨_, _, PySem.W.mg_of X G g_InvalidOperation, PySem.W.mg_of X G g_InvalidLots, su_InvalidOperation_InvalidLots⟩
    · exact ⟨_, _, PySem.W.mg_of X G g_InvalidOperation, PySem.W.mg_of X G g_InvalidOperation, su_InvalidOperation_InvalidOperation⟩
    · exact ⟨_, _, PySem.W.mg_of X G g_InvalidOperation, PySem.W.mg_of X G g_InvalidPin, su_InvalidOperation_InvalidPin⟩
    · exact ⟨_, _, PySem.W.mg_of X G g_InvalidPin, PySem.W.mg_of X G g_InvalidLots, su_InvalidPin_InvalidLots⟩
    · exact ⟨_, _, PySem.W.mg_of X G g_InvalidPin, PySem.W.mg_of X G g_InvalidOperation, su_InvalidPin_InvalidOperation⟩
    · exact ⟨_, _, PySem.W.mg_of X G g_InvalidPin, PySem.W.mg_of X G g_InvalidPin, su_InvalidPin_InvalidPin⟩
    · exact ⟨_, _, PySem.W.mg_of X G g_TooMany, PySem.W.mg_of X G g_InvalidLots, su_TooMany_InvalidLots⟩
    · exact ⟨_, _, PySem.W.mg_of X G g_TooMany, PySem.W.mg_of X G g_InvalidOperation, su_TooMany_InvalidOperation⟩
    · exact ⟨_, _, PySem.W.mg_of X G g_TooMany, PySem.W.mg_of X G g_InvalidPin, su_TooMany_InvalidPin⟩
    )
  have M_q_Lots__multiples := fld_of (G := GG) (PySem.W.mg_of X G g_Lots) cls_Lots na_Lots__multiples
  have M_q_Lots__size := fld_of (G := GG) (PySem.W.mg_of X G g_Lots) cls_Lots na_Lots__size
  have M_q_Lots__unit := fld_of (G := GG) (PySem.W.mg_of X G g_Lots) cls_Lots na_Lots__unit
  have M_q_Lots__weights := fld_of (G := GG) (PySem.W.mg_of X G g_Lots) cls_Lots na_Lots__weights
  have M_i_Lots := isiB_ok (G := GG) (PySem.W.mg_of X G g_Lots) (clsB_ok cls_Lots) isi_Lots
  have M : Mg GG := ⟨M_n_abs, M_n_all, M_n_bool, M_n_comb, M_n_dict, M_n_enumerate, M_n_gcd, M_n_int, M_n_isinstance, M_n_lcm, M_n_len, M_n_list, M_n_max, M_n_min, M_n_range, M_n_set, M_n_sorted, M_n_sum, M_n_tuple, M_n_zip, M_k_InvalidLots, M_k_InvalidNumber, M_k_InvalidOperation, M_k_InvalidPin, M_k_TooMany, M_sub, ⟨_, PySem.W.mg_of X G g_InvalidLots⟩, ⟨_, PySem.W.mg_of X G g_InvalidOperation⟩, ⟨_, PySem.W.mg_of X G g_InvalidPin⟩, M_q_Lots__multiples, M_q_Lots__size, M_q_Lots__unit, M_q_Lots__weights, M_i_Lots, ⟨_, PySem.W.mg_of X G g_Lots⟩, ⟨_, PySem.W.mg_of X G cMAX_LOTS⟩, ⟨_, PySem.W.mg_of X G cMAX_SIZE⟩, ⟨_, PySem.W.mg_of X G cMAX_THING⟩, ⟨_, PySem.W.mg_of X G c_TOO_LONG⟩⟩
  have hu__law_right : ∀ p ∈ GG.T, p.1 = tabP K cd__law_right → p.2 = (("_law_right.<locals>." : Str) ++ "<lambda>") := (allC (P := fun p : Addr × Str => p.1 = tabP K cd__law_right → p.2 = (("_law_right.<locals>." : Str) ++ "<lambda>")) (fun _ => rfl) (allC (P := fun p : Addr × Str => p.1 = tabP K cd__law_right → p.2 = (("_law_right.<locals>." : Str) ++ "<lambda>")) (fun hq => absurd hq (Ne.symm (beq_eq_false_iff_ne.mp ne__law_right_law))) allN))
  have hu_law : ∀ p ∈ GG.T, p.1 = tabP K cd_law → p.2 = (("law.<locals>." : Str) ++ "<lambda>") := (allC (P := fun p : Addr × Str => p.1 = tabP K cd_law → p.2 = (("law.<locals>." : Str) ++ "<lambda>")) (fun hq => absurd hq (beq_eq_false_iff_ne.mp ne__law_right_law)) (allC (P := fun p : Addr × Str => p.1 = tabP K cd_law → p.2 = (("law.<locals>." : Str) ++ "<lambda>")) (fun _ => rfl) allN))
  have hcs : ∀ p ∈ GG.T, p.1 ∈ ([(cd__law_right, tabP K cd__law_right), (cd_law, tabP K cd_law)] : List (Addr × Addr)).map (·.2) := (allC (P := fun p : Addr × Str => p.1 ∈ ([(cd__law_right, tabP K cd__law_right), (cd_law, tabP K cd_law)] : List (Addr × Addr)).map (·.2)) (show tabP K cd__law_right ∈ ([tabP K cd__law_right, tabP K cd_law] : List Addr) from (.head _)) (allC (P := fun p : Addr × Str => p.1 ∈ ([(cd__law_right, tabP K cd__law_right), (cd_law, tabP K cd_law)] : List (Addr × Addr)).map (·.2)) (show tabP K cd_law ∈ ([tabP K cd__law_right, tabP K cd_law] : List Addr) from (.tail _ (.head _))) allN))
  exact chain (G := GG) M (cs := [(cd__law_right, tabP K cd__law_right), (cd_law, tabP K cd_law)]) hcs
    l__law_right i__law_right (hB (cd__law_right, tabP K cd__law_right) (.head _)) (.head _) hu__law_right (PySem.W.mg_of X G a__law_right) p__law_right (B__law_right l__law_right i__law_right p__law_right)
    l_law i_law (hB (cd_law, tabP K cd_law) (.tail _ (.head _))) (.tail _ (.head _)) hu_law
    (A__law_roll l__law_roll i__law_roll p__law_roll X G a__law_roll l.prog w base _)
    (A__law_pick l__law_pick i__law_pick p__law_pick X G a__law_pick l.prog w base _)
    (A__is_whole l__is_whole i__is_whole p__is_whole X G a__is_whole l.prog w base _)
    (A_is_integer l_is_integer i_is_integer p_is_integer X G a_is_integer l.prog w base _)
    (A_is_within l_is_within i_is_within p_is_within X G a_is_within l.prog w base _)
    (A_is_thing l_is_thing i_is_thing p_is_thing X G a_is_thing l.prog w base _)
    (A_are_things l_are_things i_are_things p_are_things X G a_are_things l.prog w base _)
    (A_is_lot l_is_lot i_is_lot p_is_lot X G a_is_lot l.prog w base _)
    (A__are_different_lots l__are_different_lots i__are_different_lots p__are_different_lots X G a__are_different_lots l.prog w base _)
    (A_is_fraction l_is_fraction i_is_fraction p_is_fraction X G a_is_fraction l.prog w base _)
    (A_is_number l_is_number i_is_number p_is_number X G a_is_number l.prog w base _)
    (A_pair_of l_pair_of i_pair_of p_pair_of X G a_pair_of l.prog w base _)
    (A_is_above_0 l_is_above_0 i_is_above_0 p_is_above_0 X G a_is_above_0 l.prog w base _)
    (A_is_lots_data l_is_lots_data i_is_lots_data p_is_lots_data X G a_is_lots_data l.prog w base _)
    (A_whole_row l_whole_row i_whole_row p_whole_row X G a_whole_row l.prog w base _)
    (A_common_divisor l_common_divisor i_common_divisor p_common_divisor X G a_common_divisor l.prog w base _)
    (A__reduced l__reduced i__reduced p__reduced X G a__reduced l.prog w base _)
    (A_fraction l_fraction i_fraction p_fraction X G a_fraction l.prog w base _)
    (A_parts_of l_parts_of i_parts_of p_parts_of X G a_parts_of l.prog w base _)
    (A__pin_sums l__pin_sums i__pin_sums p__pin_sums X G a__pin_sums l.prog w base _)
    (A_Lots___init__ l_Lots___init__ i_Lots___init__ p_Lots___init__ X G g_Lots mkb_Lots a_Lots___init__ fn_Lots___init__ l.prog w base _)
    (A_check_lots l_check_lots i_check_lots p_check_lots X G a_check_lots l.prog w base _)
    (A_Lots_size l_Lots_size i_Lots_size p_Lots_size X G g_Lots cls_Lots a_Lots_size gt_Lots_size tk_Lots_size rc_Lots_size l.prog w base _)
    (A_Lots_multiple_of l_Lots_multiple_of i_Lots_multiple_of p_Lots_multiple_of X G g_Lots cls_Lots a_Lots_multiple_of fn_Lots_multiple_of l.prog w base _)
    (A_is_pin l_is_pin i_is_pin p_is_pin X G a_is_pin l.prog w base _)
    (A_check_pin l_check_pin i_check_pin p_check_pin X G a_check_pin l.prog w base _)
    (A_check_near l_check_near i_check_near p_check_near X G a_check_near l.prog w base _)
    (A_check_room l_check_room i_check_room p_check_room X G a_check_room l.prog w base _)
    (A_check_place l_check_place i_check_place p_check_place X G a_check_place l.prog w base _)
    (A_Lots_things l_Lots_things i_Lots_things p_Lots_things X G g_Lots cls_Lots a_Lots_things gt_Lots_things tk_Lots_things rc_Lots_things l.prog w base _)
    (A_together l_together i_together p_together X G a_together l.prog w base _)
    (A_things_left l_things_left i_things_left p_things_left X G a_things_left l.prog w base _)
    (A_link_things l_link_things i_link_things p_link_things X G a_link_things l.prog w base _)
    (A_Lots_unit l_Lots_unit i_Lots_unit p_Lots_unit X G g_Lots cls_Lots a_Lots_unit gt_Lots_unit tk_Lots_unit rc_Lots_unit l.prog w base _)
    (A_check_number l_check_number i_check_number p_check_number X G a_check_number l.prog w base _)
    (A__checked l__checked i__checked p__checked X G a__checked l.prog w base _)
    (A_multiplied l_multiplied i_multiplied p_multiplied X G a_multiplied l.prog w base _)
    (A_pair_weights l_pair_weights i_pair_weights p_pair_weights X G a_pair_weights l.prog w base _)
    (A_pair_rows l_pair_rows i_pair_rows p_pair_rows X G a_pair_rows l.prog w base _)
    (A_masses l_masses i_masses p_masses X G a_masses l.prog w base _)
    (A_local_walk l_local_walk i_local_walk p_local_walk X G a_local_walk l.prog w base _)
    (A_walk_shares l_walk_shares i_walk_shares p_walk_shares X G a_walk_shares l.prog w base _)
    (A__reached l__reached i__reached p__reached X G a__reached l.prog w base _)
    (A_pieces_of_rows l_pieces_of_rows i_pieces_of_rows p_pieces_of_rows X G a_pieces_of_rows l.prog w base _)
    (A_pieces l_pieces i_pieces p_pieces X G a_pieces l.prog w base _)
    (A_hangs_together l_hangs_together i_hangs_together p_hangs_together X G a_hangs_together l.prog w base _)
    (A_parting l_parting i_parting p_parting X G a_parting l.prog w base _)
    (A_is_parting l_is_parting i_is_parting p_is_parting X G a_is_parting l.prog w base _)
    (A__law_met l__law_met i__law_met p__law_met X G a__law_met l.prog w base _)
    (A__law_dice l__law_dice i__law_dice p__law_dice X G a__law_dice l.prog w base _)
    (A_check_within l_check_within i_check_within p_check_within X G a_check_within l.prog w base _)
    (A_Lots_all_of l_Lots_all_of i_Lots_all_of p_Lots_all_of X G g_Lots rdb_Lots a_Lots_all_of rc_Lots_all_of fi_Lots_all_of l.prog w base _)
end Pv.K18
open PySem PySem.W PyProof.Rows
set_option maxRecDepth 100000 in
set_option maxHeartbeats 0 in
theorem PySem.Challenge.cw_pinnedgaps_k18_errors_of_local_walks_holds : PySem.Challenge.rw_pinnedgaps_k18_errors_of_local_walks.Holds := by
  w_on; o_law; k_head; (case hw => w_witness2)
  k_fill
  refine Pv.walkT (l := PySem.Challenge.rw_pinnedgaps_k18_errors_of_local_walks) (k := 19) rfl rfl ⟨rfl, by decide, by decide⟩ (fun w h Y => PySem.W.km_in_of Y) ?F
  case F =>
    intro w mg fa h Y KX G hmg
    have hTb := PySem.W.km_tabs_of Y
    refine' Pv.K18.all KX G hmg hTb ?z_abs ?z_all ?z_bool ?z_comb ?z_dict ?z_enumerate ?z_gcd ?z_int ?z_isinstance ?z_lcm ?z_len ?z_list ?z_max ?z_min ?z_range ?z_set ?z_sorted ?z_sum ?z_tuple ?z_zip ?cMAX_LOTS ?cMAX_SIZE ?cMAX_THING ?c_TOO_LONG ?g_InvalidLots ?g_InvalidNumber ?g_InvalidOperation ?g_InvalidPin ?g_TooMany ?g_Lots ?cls_Lots ?rdb_Lots ?mkb_Lots ?isi_Lots ?na_Lots__multiples ?na_Lots__size ?na_Lots__unit ?na_Lots__weights ?k0_InvalidLots ?fi_InvalidNumber ?li_InvalidNumber ?ci_InvalidNumber ?ki_InvalidNumber ?xc_InvalidNumber ?zb_IndexError ?vb_InvalidNumber ?k0_InvalidOperation ?k0_InvalidPin ?fi_TooMany ?li_TooMany ?ci_TooMany ?ki_TooMany ?xc_TooMany ?zb_OverflowError ?vb_TooMany ?su_InvalidLots_InvalidLots ?su_InvalidLots_InvalidOperation ?su_InvalidLots_InvalidPin ?su_InvalidNumber_InvalidLots ?su_InvalidNumber_InvalidOperation ?su_InvalidNumber_InvalidPin ?su_InvalidOperation_InvalidLots ?su_InvalidOperation_InvalidOperation ?su_InvalidOperation_InvalidPin ?su_InvalidPin_InvalidLots ?su_InvalidPin_InvalidOperation ?su_InvalidPin_InvalidPin ?su_TooMany_InvalidLots ?su_TooMany_InvalidOperation ?su_TooMany_InvalidPin ?a__law_roll ?l__law_roll ?i__law_roll ?p__law_roll ?a__law_pick ?l__law_pick ?i__law_pick ?p__law_pick ?a__is_whole ?l__is_whole ?i__is_whole ?p__is_whole ?a_is_integer ?l_is_integer ?i_is_integer ?p_is_integer ?a_is_within ?l_is_within ?i_is_within ?p_is_within ?a_is_thing ?l_is_thing ?i_is_thing ?p_is_thing ?a_are_things ?l_are_things ?i_are_things ?p_are_things ?a_is_lot ?l_is_lot ?i_is_lot ?p_is_lot ?a__are_different_lots ?l__are_different_lots ?i__are_different_lots ?p__are_different_lots ?a_is_fraction ?l_is_fraction ?i_is_fraction ?p_is_fraction ?a_is_number ?l_is_number ?i_is_number ?p_is_number ?a_pair_of ?l_pair_of ?i_pair_of ?p_pair_of ?a_is_above_0 ?l_is_above_0 ?i_is_above_0 ?p_is_above_0 ?a_is_lots_data ?l_is_lots_data ?i_is_lots_data ?p_is_lots_data ?a_whole_row ?l_whole_row ?i_whole_row ?p_whole_row ?a_common_divisor ?l_common_divisor ?i_common_divisor ?p_common_divisor ?a__reduced ?l__reduced ?i__reduced ?p__reduced ?a_fraction ?l_fraction ?i_fraction ?p_fraction ?a_parts_of ?l_parts_of ?i_parts_of ?p_parts_of ?a__pin_sums ?l__pin_sums ?i__pin_sums ?p__pin_sums ?a_Lots___init__ ?fn_Lots___init__ ?l_Lots___init__ ?i_Lots___init__ ?p_Lots___init__ ?a_check_lots ?l_check_lots ?i_check_lots ?p_check_lots ?a_Lots_size ?gt_Lots_size ?tk_Lots_size ?rc_Lots_size ?l_Lots_size ?i_Lots_size ?p_Lots_size ?a_Lots_multiple_of ?fn_Lots_multiple_of ?l_Lots_multiple_of ?i_Lots_multiple_of ?p_Lots_multiple_of ?a_is_pin ?l_is_pin ?i_is_pin ?p_is_pin ?a_check_pin ?l_check_pin ?i_check_pin ?p_check_pin ?a_check_near ?l_check_near ?i_check_near ?p_check_near ?a_check_room ?l_check_room ?i_check_room ?p_check_room ?a_check_place ?l_check_place ?i_check_place ?p_check_place ?a_Lots_things ?gt_Lots_things ?tk_Lots_things ?rc_Lots_things ?l_Lots_things ?i_Lots_things ?p_Lots_things ?a_together ?l_together ?i_together ?p_together ?a_things_left ?l_things_left ?i_things_left ?p_things_left ?a_link_things ?l_link_things ?i_link_things ?p_link_things ?a_Lots_unit ?gt_Lots_unit ?tk_Lots_unit ?rc_Lots_unit ?l_Lots_unit ?i_Lots_unit ?p_Lots_unit ?a_check_number ?l_check_number ?i_check_number ?p_check_number ?a__checked ?l__checked ?i__checked ?p__checked ?a_multiplied ?l_multiplied ?i_multiplied ?p_multiplied ?a_pair_weights ?l_pair_weights ?i_pair_weights ?p_pair_weights ?a_pair_rows ?l_pair_rows ?i_pair_rows ?p_pair_rows ?a_masses ?l_masses ?i_masses ?p_masses ?a_local_walk ?l_local_walk ?i_local_walk ?p_local_walk ?a_walk_shares ?l_walk_shares ?i_walk_shares ?p_walk_shares ?a__reached ?l__reached ?i__reached ?p__reached ?a_pieces_of_rows ?l_pieces_of_rows ?i_pieces_of_rows ?p_pieces_of_rows ?a_pieces ?l_pieces ?i_pieces ?p_pieces ?a_hangs_together ?l_hangs_together ?i_hangs_together ?p_hangs_together ?a_parting ?l_parting ?i_parting ?p_parting ?a_is_parting ?l_is_parting ?i_is_parting ?p_is_parting ?a__law_met ?l__law_met ?i__law_met ?p__law_met ?a__law_right ?l__law_right ?i__law_right ?p__law_right ?t__law_right ?a__law_dice ?l__law_dice ?i__law_dice ?p__law_dice ?a_check_within ?l_check_within ?i_check_within ?p_check_within ?a_Lots_all_of ?rc_Lots_all_of ?fi_Lots_all_of ?l_Lots_all_of ?i_Lots_all_of ?p_Lots_all_of ?a_law ?l_law ?i_law ?p_law ?t_law ?ne__law_right_law
    (case z_abs => k_is)
    (case z_all => k_is)
    (case z_bool => k_is)
    (case z_comb => k_is)
    (case z_dict => k_is)
    (case z_enumerate => k_is)
    (case z_gcd => k_is)
    (case z_int => k_is)
    (case z_isinstance => k_is)
    (case z_lcm => k_is)
    (case z_len => k_is)
    (case z_list => k_is)
    (case z_max => k_is)
    (case z_min => k_is)
    (case z_range => k_is)
    (case z_set => k_is)
    (case z_sorted => k_is)
    (case z_sum => k_is)
    (case z_tuple => k_is)
    (case z_zip => k_is)
    (case cMAX_LOTS => k_is)
    (case cMAX_SIZE => k_is)
    (case cMAX_THING => k_is)
    (case c_TOO_LONG => k_is)
    (case g_InvalidLots => k_is)
    (case g_InvalidNumber => k_is)
    (case g_InvalidOperation => k_is)
    (case g_InvalidPin => k_is)
    (case g_TooMany => k_is)
    (case g_Lots => k_is)
    (case cls_Lots => kernel_rfl)
    (case rdb_Lots => kernel_rfl)
    (case mkb_Lots => kernel_rfl)
    (case isi_Lots => kernel_rfl)
    (case na_Lots__multiples => k_is)
    (case na_Lots__size => k_is)
    (case na_Lots__unit => k_is)
    (case na_Lots__weights => k_is)
    (case k0_InvalidLots => kernel_rfl)
    (case fi_InvalidNumber => k_is)
    (case li_InvalidNumber => k_is)
    (case ci_InvalidNumber => k_is)
    (case ki_InvalidNumber => k_is)
    (case xc_InvalidNumber => kernel_rfl)
    (case zb_IndexError => k_is)
    (case vb_InvalidNumber => k_is)
    (case k0_InvalidOperation => kernel_rfl)
    (case k0_InvalidPin => kernel_rfl)
    (case fi_TooMany => k_is)
    (case li_TooMany => k_is)
    (case ci_TooMany => k_is)
    (case ki_TooMany => k_is)
    (case xc_TooMany => kernel_rfl)
    (case zb_OverflowError => k_is)
    (case vb_TooMany => k_is)
    (case su_InvalidLots_InvalidLots => kernel_rfl)
    (case su_InvalidLots_InvalidOperation => kernel_rfl)
    (case su_InvalidLots_InvalidPin => kernel_rfl)
    (case su_InvalidNumber_InvalidLots => kernel_rfl)
    (case su_InvalidNumber_InvalidOperation => kernel_rfl)
    (case su_InvalidNumber_InvalidPin => kernel_rfl)
    (case su_InvalidOperation_InvalidLots => kernel_rfl)
    (case su_InvalidOperation_InvalidOperation => kernel_rfl)
    (case su_InvalidOperation_InvalidPin => kernel_rfl)
    (case su_InvalidPin_InvalidLots => kernel_rfl)
    (case su_InvalidPin_InvalidOperation => kernel_rfl)
    (case su_InvalidPin_InvalidPin => kernel_rfl)
    (case su_TooMany_InvalidLots => kernel_rfl)
    (case su_TooMany_InvalidOperation => kernel_rfl)
    (case su_TooMany_InvalidPin => kernel_rfl)
    (case a__law_roll => k_is)
    (case l__law_roll => k_is)
    (case i__law_roll => k_is)
    (case p__law_roll => k_is)
    (case a__law_pick => k_is)
    (case l__law_pick => k_is)
    (case i__law_pick => k_is)
    (case p__law_pick => k_is)
    (case a__is_whole => k_is)
    (case l__is_whole => k_is)
    (case i__is_whole => k_is)
    (case p__is_whole => k_is)
    (case a_is_integer => k_is)
    (case l_is_integer => k_is)
    (case i_is_integer => k_is)
    (case p_is_integer => k_is)
    (case a_is_within => k_is)
    (case l_is_within => k_is)
    (case i_is_within => k_is)
    (case p_is_within => k_is)
    (case a_is_thing => k_is)
    (case l_is_thing => k_is)
    (case i_is_thing => k_is)
    (case p_is_thing => k_is)
    (case a_are_things => k_is)
    (case l_are_things => k_is)
    (case i_are_things => k_is)
    (case p_are_things => k_is)
    (case a_is_lot => k_is)
    (case l_is_lot => k_is)
    (case i_is_lot => k_is)
    (case p_is_lot => k_is)
    (case a__are_different_lots => k_is)
    (case l__are_different_lots => k_is)
    (case i__are_different_lots => k_is)
    (case p__are_different_lots => k_is)
    (case a_is_fraction => k_is)
    (case l_is_fraction => k_is)
    (case i_is_fraction => k_is)
    (case p_is_fraction => k_is)
    (case a_is_number => k_is)
    (case l_is_number => k_is)
    (case i_is_number => k_is)
    (case p_is_number => k_is)
    (case a_pair_of => k_is)
    (case l_pair_of => k_is)
    (case i_pair_of => k_is)
    (case p_pair_of => k_is)
    (case a_is_above_0 => k_is)
    (case l_is_above_0 => k_is)
    (case i_is_above_0 => k_is)
    (case p_is_above_0 => k_is)
    (case a_is_lots_data => k_is)
    (case l_is_lots_data => k_is)
    (case i_is_lots_data => k_is)
    (case p_is_lots_data => k_is)
    (case a_whole_row => k_is)
    (case l_whole_row => k_is)
    (case i_whole_row => k_is)
    (case p_whole_row => k_is)
    (case a_common_divisor => k_is)
    (case l_common_divisor => k_is)
    (case i_common_divisor => k_is)
    (case p_common_divisor => k_is)
    (case a__reduced => k_is)
    (case l__reduced => k_is)
    (case i__reduced => k_is)
    (case p__reduced => k_is)
    (case a_fraction => k_is)
    (case l_fraction => k_is)
    (case i_fraction => k_is)
    (case p_fraction => k_is)
    (case a_parts_of => k_is)
    (case l_parts_of => k_is)
    (case i_parts_of => k_is)
    (case p_parts_of => k_is)
    (case a__pin_sums => k_is)
    (case l__pin_sums => k_is)
    (case i__pin_sums => k_is)
    (case p__pin_sums => k_is)
    (case a_Lots___init__ => k_is)
    (case fn_Lots___init__ => k_is)
    (case l_Lots___init__ => k_is)
    (case i_Lots___init__ => k_is)
    (case p_Lots___init__ => k_is)
    (case a_check_lots => k_is)
    (case l_check_lots => k_is)
    (case i_check_lots => k_is)
    (case p_check_lots => k_is)
    (case a_Lots_size => k_is)
    (case gt_Lots_size => k_is)
    (case tk_Lots_size => k_is)
    (case rc_Lots_size => k_is)
    (case l_Lots_size => k_is)
    (case i_Lots_size => k_is)
    (case p_Lots_size => k_is)
    (case a_Lots_multiple_of => k_is)
    (case fn_Lots_multiple_of => k_is)
    (case l_Lots_multiple_of => k_is)
    (case i_Lots_multiple_of => k_is)
    (case p_Lots_multiple_of => k_is)
    (case a_is_pin => k_is)
    (case l_is_pin => k_is)
    (case i_is_pin => k_is)
    (case p_is_pin => k_is)
    (case a_check_pin => k_is)
    (case l_check_pin => k_is)
    (case i_check_pin => k_is)
    (case p_check_pin => k_is)
    (case a_check_near => k_is)
    (case l_check_near => k_is)
    (case i_check_near => k_is)
    (case p_check_near => k_is)
    (case a_check_room => k_is)
    (case l_check_room => k_is)
    (case i_check_room => k_is)
    (case p_check_room => k_is)
    (case a_check_place => k_is)
    (case l_check_place => k_is)
    (case i_check_place => k_is)
    (case p_check_place => k_is)
    (case a_Lots_things => k_is)
    (case gt_Lots_things => k_is)
    (case tk_Lots_things => k_is)
    (case rc_Lots_things => k_is)
    (case l_Lots_things => k_is)
    (case i_Lots_things => k_is)
    (case p_Lots_things => k_is)
    (case a_together => k_is)
    (case l_together => k_is)
    (case i_together => k_is)
    (case p_together => k_is)
    (case a_things_left => k_is)
    (case l_things_left => k_is)
    (case i_things_left => k_is)
    (case p_things_left => k_is)
    (case a_link_things => k_is)
    (case l_link_things => k_is)
    (case i_link_things => k_is)
    (case p_link_things => k_is)
    (case a_Lots_unit => k_is)
    (case gt_Lots_unit => k_is)
    (case tk_Lots_unit => k_is)
    (case rc_Lots_unit => k_is)
    (case l_Lots_unit => k_is)
    (case i_Lots_unit => k_is)
    (case p_Lots_unit => k_is)
    (case a_check_number => k_is)
    (case l_check_number => k_is)
    (case i_check_number => k_is)
    (case p_check_number => k_is)
    (case a__checked => k_is)
    (case l__checked => k_is)
    (case i__checked => k_is)
    (case p__checked => k_is)
    (case a_multiplied => k_is)
    (case l_multiplied => k_is)
    (case i_multiplied => k_is)
    (case p_multiplied => k_is)
    (case a_pair_weights => k_is)
    (case l_pair_weights => k_is)
    (case i_pair_weights => k_is)
    (case p_pair_weights => k_is)
    (case a_pair_rows => k_is)
    (case l_pair_rows => k_is)
    (case i_pair_rows => k_is)
    (case p_pair_rows => k_is)
    (case a_masses => k_is)
    (case l_masses => k_is)
    (case i_masses => k_is)
    (case p_masses => k_is)
    (case a_local_walk => k_is)
    (case l_local_walk => k_is)
    (case i_local_walk => k_is)
    (case p_local_walk => k_is)
    (case a_walk_shares => k_is)
    (case l_walk_shares => k_is)
    (case i_walk_shares => k_is)
    (case p_walk_shares => k_is)
    (case a__reached => k_is)
    (case l__reached => k_is)
    (case i__reached => k_is)
    (case p__reached => k_is)
    (case a_pieces_of_rows => k_is)
    (case l_pieces_of_rows => k_is)
    (case i_pieces_of_rows => k_is)
    (case p_pieces_of_rows => k_is)
    (case a_pieces => k_is)
    (case l_pieces => k_is)
    (case i_pieces => k_is)
    (case p_pieces => k_is)
    (case a_hangs_together => k_is)
    (case l_hangs_together => k_is)
    (case i_hangs_together => k_is)
    (case p_hangs_together => k_is)
    (case a_parting => k_is)
    (case l_parting => k_is)
    (case i_parting => k_is)
    (case p_parting => k_is)
    (case a_is_parting => k_is)
    (case l_is_parting => k_is)
    (case i_is_parting => k_is)
    (case p_is_parting => k_is)
    (case a__law_met => k_is)
    (case l__law_met => k_is)
    (case i__law_met => k_is)
    (case p__law_met => k_is)
    (case a__law_right => k_is)
    (case l__law_right => k_is)
    (case i__law_right => k_is)
    (case p__law_right => k_is)
    (case t__law_right => kernel_rfl)
    (case a__law_dice => k_is)
    (case l__law_dice => k_is)
    (case i__law_dice => k_is)
    (case p__law_dice => k_is)
    (case a_check_within => k_is)
    (case l_check_within => k_is)
    (case i_check_within => k_is)
    (case p_check_within => k_is)
    (case a_Lots_all_of => k_is)
    (case rc_Lots_all_of => k_is)
    (case fi_Lots_all_of => k_is)
    (case l_Lots_all_of => k_is)
    (case i_Lots_all_of => k_is)
    (case p_Lots_all_of => k_is)
    (case a_law => k_is)
    (case l_law => k_is)
    (case i_law => k_is)
    (case p_law => k_is)
    (case t_law => kernel_rfl)
    (case ne__law_right_law => kernel_rfl)
