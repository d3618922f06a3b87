import PyProof.Rows.All
import Wide.All
import OpenK.AllK
import Wide.FinOn
import HandS.ForMost
import HandS.ForExc
import HandS.HotCalls
import HandS.ExcIs
import HandS.IsInst
import HandS.DictComp
import HandS.SortKw
import HandS.Wide
import HandS.TupAny
import HandS.TupLe
import HandS.Deep
import HandS.Steps
import HandS.Lambda
import KE.KSortKeySt
import KE.KLam
import HandS.EndTab
import HandS.Iter
import PySem.Challenge.RW_eventloom_k01_words
set_option Elab.async false
set_option linter.all false
set_option maxRecDepth 100000
set_option maxHeartbeats 4000000
/-! Pd: plain data. What a value stands for (Rp), what a part of a def makes of plain data (XD, XS), a def that makes data of data (spD). -/
namespace Pd
open PySem PySem.Spec PyProof.Rows L2

abbrev D := PyData
/-- a key as data -/
def kD : Key → D
  | .inl i => .int i
  | .inr x => .str x
abbrev St := L2.St

mutual
/-- the value v stands, in the heap H, for the data d -/
inductive Rp (K : PySem.W.Frag) (H : Hp) : V → D → Prop
  | non : Rp K H .non .none
  | bl (b : Bool) : Rp K H (.bl b) (.bool b)
  | int (i : Int) : Rp K H (.int i) (.int i)
  | str (x : Str) : Rp K H (.str x) (.str x)
  | lst {a : Addr} {xs : List V} {ds : List D} : SqL K H a xs → RpAll K H xs ds → Rp K H (.ref a) (.list ds)
  | tup {a : Addr} {xs : List V} {ds : List D} : SqT K H a xs → RpAll K H xs ds → Rp K H (.ref a) (.tuple ds)
  | dct {a : Addr} {kvs : List (Key × V)} {ds : List (D × D)} : H a = some (.dK kvs) → RpKv K H kvs ds → Rp K H (.ref a) (.dict ds)
inductive RpAll (K : PySem.W.Frag) (H : Hp) : List V → List D → Prop
  | nil : RpAll K H [] []
  | cons {v : V} {vs : List V} {d : D} {ds : List D} : Rp K H v d → RpAll K H vs ds → RpAll K H (v :: vs) (d :: ds)
inductive RpKv (K : PySem.W.Frag) (H : Hp) : List (Key × V) → List (D × D) → Prop
  | nil : RpKv K H [] []
  | cons {k : Key} {v : V} {kvs : List (Key × V)} {d : D} {ds : List (D × D)} : Rp K H v d → RpKv K H kvs ds → RpKv K H ((k, v) :: kvs) ((kD k, d) :: ds)
end

theorem SqT_same {K : PySem.W.Frag} {H H' : Hp} {a : Addr} {xs : List V} (e : Same H H') (h : SqT K H a xs) : SqT K H' a xs := by
  rcases h with (h | ⟨o, h⟩) | h
  · exact .inl (.inl (e _ _ h))
  · exact .inl (.inr ⟨o, e _ _ h⟩)
  · exact .inr h
mutual
theorem Rp.mono {K : PySem.W.Frag} {H H' : Hp} (e : Same H H') : ∀ {v : V} {d : D}, Rp K H v d → Rp K H' v d
  | _, _, .non => .non
  | _, _, .bl b => .bl b
  | _, _, .int i => .int i
  | _, _, .str x => .str x
  | _, _, .lst h r => .lst (e.seq h) (RpAll.mono e r)
  | _, _, .tup h r => .tup (SqT_same e h) (RpAll.mono e r)
  | _, _, .dct h r => .dct (e _ _ h) (RpKv.mono e r)
theorem RpAll.mono {K : PySem.W.Frag} {H H' : Hp} (e : Same H H') : ∀ {vs : List V} {ds : List D}, RpAll K H vs ds → RpAll K H' vs ds
  | _, _, .nil => .nil
  | _, _, .cons h r => .cons (Rp.mono e h) (RpAll.mono e r)
theorem RpKv.mono {K : PySem.W.Frag} {H H' : Hp} (e : Same H H') : ∀ {vs : List (Key × V)} {ds : List (D × D)}, RpKv K H vs ds → RpKv K H' vs ds
  | _, _, .nil => .nil
  | _, _, .cons h r => .cons (Rp.mono e h) (RpKv.mono e r)
end
mutual
theorem Rp.dp {K : PySem.W.Frag} {H : Hp} : ∀ {v : V} {d : D}, d.canLay0 = true → Rp K H v d → Dp K H v d
  | _, _, _, .non => .non
  | _, _, _, .bl b => .bl b
  | _, _, _, .int i => .int i
  | _, _, _, .str x => .str x
  | _, _, c, .lst h r => .lst h (RpAll.dp (by rw [PyData.canLay0] at c; exact c) r)
  | _, _, c, .tup h r => .tup h (RpAll.dp (by rw [PyData.canLay0] at c; exact c) r)
  | _, _, c, .dct h _ => by rw [PyData.canLay0] at c; cases c
theorem RpAll.dp {K : PySem.W.Frag} {H : Hp} : ∀ {vs : List V} {ds : List D}, PyData.canLayAll0 ds = true → RpAll K H vs ds → DpAll K H vs ds
  | _, _, _, .nil => .nil
  | _, _, c, .cons h r => .cons (Rp.dp (by rw [PyData.canLayAll0, Bool.and_eq_true] at c; exact c.1) h) (RpAll.dp (by rw [PyData.canLayAll0, Bool.and_eq_true] at c; exact c.2) r)
end
theorem shaped_lay {d : D} (h : SeqAt.shaped d = true) : d.canLay0 = true := by
  unfold SeqAt.shaped at h
  rw [Bool.and_eq_true] at h
  exact h.1
theorem Rp.dps {K : PySem.W.Frag} {H : Hp} {v : V} {d : D} (h : SeqAt.shaped d = true) (r : Rp K H v d) : Dp K H v d := r.dp (shaped_lay h)
theorem RpAll.length {K : PySem.W.Frag} {H : Hp} : ∀ {vs : List V} {ds : List D}, RpAll K H vs ds → vs.length = ds.length
  | _, _, .nil => rfl
  | _, _, .cons _ r => congrArg (· + 1) (RpAll.length r)
theorem RpAll.append {K : PySem.W.Frag} {H : Hp} : ∀ {vs ws : List V} {ds es : List D}, RpAll K H vs ds → RpAll K H ws es → RpAll K H (vs ++ ws) (ds ++ es)
  | _, _, _, _, .nil, s => s
  | _, _, _, _, .cons h r, s => .cons h (RpAll.append r s)
theorem RpAll.get {K : PySem.W.Frag} {H : Hp} : ∀ {vs : List V} {ds : List D} {i : Nat} {v : V}, RpAll K H vs ds → vs[i]? = some v → ∃ d, ds[i]? = some d ∧ Rp K H v d
  | _, _, _, _, .nil, e => by simp at e
  | _, _, 0, _, .cons h _, e => by simp at e; subst e; exact ⟨_, rfl, h⟩
  | _, _, i + 1, _, .cons _ r, e => by
    obtain ⟨d, h1, h2⟩ := RpAll.get (i := i) r (by simpa using e)
    exact ⟨d, by simpa using h1, h2⟩
theorem RpAll.got {K : PySem.W.Frag} {H : Hp} : ∀ {vs : List V} {ds : List D} {i : Nat} {d : D}, RpAll K H vs ds → ds[i]? = some d → ∃ v, vs[i]? = some v ∧ Rp K H v d
  | _, _, _, _, .nil, e => by simp at e
  | _, _, 0, _, .cons h _, e => by simp at e; subst e; exact ⟨_, rfl, h⟩
  | _, _, i + 1, _, .cons _ r, e => by
    obtain ⟨d, h1, h2⟩ := RpAll.got (i := i) r (by simpa using e)
    exact ⟨d, by simpa using h1, h2⟩
theorem RpAll.take {K : PySem.W.Frag} {H : Hp} : ∀ {vs : List V} {ds : List D} (n : Nat), RpAll K H vs ds → RpAll K H (vs.take n) (ds.take n)
  | _, _, 0, _ => .nil
  | _, _, _ + 1, .nil => .nil
  | _, _, n + 1, .cons h r => .cons h (RpAll.take n r)
theorem RpAll.drop {K : PySem.W.Frag} {H : Hp} : ∀ {vs : List V} {ds : List D} (n : Nat), RpAll K H vs ds → RpAll K H (vs.drop n) (ds.drop n)
  | _, _, 0, r => r
  | _, _, _ + 1, .nil => .nil
  | _, _, n + 1, .cons _ r => RpAll.drop n r

/-! ### the kept part F of the heap H: what stands there is never changed. T: the tables of code objects, which grow where a lambda is made -/
abbrev Tabs := LamX.Tabs
structure Keep (T : List (Addr × Str)) (H H' : Hp) : Prop where
  old : ∀ b o, H b = some o → (∀ ps, o ≠ .tbl ps) → H' b = some o
  tabs : Tabs T H → Tabs T H'
theorem Keep.of {T : List (Addr × Str)} {H H' : Hp} (s : Same H H') : Keep T H H' := ⟨fun b o e _ => s b o e, fun t => t.ext s⟩
theorem Keep.refl {T : List (Addr × Str)} (H : Hp) : Keep T H H := .of (Same.refl H)
theorem Keep.trans {T : List (Addr × Str)} {H H1 H2 : Hp} (a : Keep T H H1) (b : Keep T H1 H2) : Keep T H H2 :=
  ⟨fun c o e n => b.old c o (a.old c o e n) n, fun t => b.tabs (a.tabs t)⟩
theorem Keep.lst {T : List (Addr × Str)} {H H' : Hp} (k : Keep T H H') {a : Addr} {vs : List V} (e : H a = some (.lst vs)) : H' a = some (.lst vs) := k.old a _ e fun ps z => by cases z
/-- nothing of one's own stands there: nothing, or a table -/
def Fre (o : Option HO) : Prop := o = Option.none ∨ ∃ ps, o = some (.tbl ps)
theorem Fre.lst {vs : List V} {p : Prop} (h : Fre (some (.lst vs))) : p := by
  rcases h with h | ⟨ps, h⟩ <;> cases h
theorem Fre.ne {H : Hp} {a b : Addr} {o : HO} (h : Fre (H a)) (e : H b = some o) (n : ∀ ps, o ≠ .tbl ps) : b ≠ a := by
  rintro rfl
  rw [e] at h
  rcases h with h | ⟨ps, h⟩
  · cases h
  · exact n ps (Option.some.inj h)
theorem Keep.free {T : List (Addr × Str)} {H H' : Hp} (k : Keep T H H') {a : Addr} (e : Fre (H' a)) : Fre (H a) := by
  cases q : H a with
  | none => exact .inl rfl
  | some o =>
    by_cases z : ∃ ps, o = .tbl ps
    · obtain ⟨ps, rfl⟩ := z
      exact .inr ⟨ps, rfl⟩
    · exact absurd rfl (Fre.ne e (k.old a o q fun ps y => z ⟨ps, y⟩) fun ps y => z ⟨ps, y⟩)
/-- a kept part has no tables -/
structure Sub (T : List (Addr × Str)) (F H : Hp) : Prop where
  same : Same F H
  nt : ∀ b ps, F b ≠ some (.tbl ps)
  tabs : Tabs T H
theorem Sub.keep {T : List (Addr × Str)} {F H H' : Hp} (s : Sub T F H) (k : Keep T H H') : Sub T F H' := ⟨fun b o e => k.old b o (s.same b o e) fun ps z => s.nt b ps (by rw [← z]; exact e), s.nt, k.tabs s.tabs⟩
/-- nothing is a table -/
def noT (o : HO) : Prop := ∀ ps, o ≠ .tbl ps
structure Grow (T : List (Addr × Str)) (F H F' H' : Hp) : Prop where
  f : Same F F'
  h : Keep T H H'
  s : Sub T F' H'
  n : ∀ b o, F' b = some o → F b = Option.none → Fre (H b)
section
variable {T : List (Addr × Str)}
theorem Grow.refl {F H : Hp} (s : Sub T F H) : Grow T F H F H := ⟨Same.refl _, Keep.refl _, s, fun b o e n => by rw [n] at e; cases e⟩
theorem Grow.trans {F H F1 H1 F2 H2 : Hp} (a : Grow T F H F1 H1) (b : Grow T F1 H1 F2 H2) : Grow T F H F2 H2 :=
  ⟨a.f.trans b.f, a.h.trans b.h, b.s, fun c o e n => by
    cases q : F1 c with
    | none => exact a.h.free (b.n c o e q)
    | some u => exact a.n c u q n⟩
theorem upd_same_of {H : Hp} {p : Addr} {o : HO} (hp : H p = Option.none) : Same H (upd H p o) := fun b u e => by rw [upd_ne (ne_of_none e hp)]; exact e
/-- a new object that stays -/
theorem Grow.new {F H : Hp} {p : Addr} {o : HO} (s : Sub T F H) (hp : H p = Option.none) (no : noT o := by intro _ z; cases z) : Grow T F H (upd F p o) (upd H p o) where
  f := upd_same_of (s.same.free hp)
  h := .of (upd_same_of hp)
  s := ⟨fun b u e => by
    by_cases hb : b = p
    · subst hb; rw [upd_same] at e ⊢; exact e
    · rw [upd_ne hb] at e ⊢; exact s.same _ _ e, fun b ps e => by
    by_cases hb : b = p
    · subst hb; rw [upd_same] at e; exact no ps (Option.some.inj e)
    · rw [upd_ne hb] at e; exact s.nt b ps e, s.tabs.ext (upd_same_of hp)⟩
  n := fun b u e n => by
    by_cases hb : b = p
    · subst hb; exact .inl hp
    · rw [upd_ne hb, n] at e; cases e
/-- a new object of one's own hand -/
theorem Grow.mine {F H : Hp} {p : Addr} {o : HO} (s : Sub T F H) (hp : H p = Option.none) : Grow T F H F (upd H p o) :=
  ⟨Same.refl _, .of (upd_same_of hp), ⟨fun b u e => by rw [upd_ne (ne_of_none e (s.same.free hp))]; exact s.same _ _ e, s.nt, s.tabs.ext (upd_same_of hp)⟩, fun b u e n => by rw [n] at e; cases e⟩
/-- a list is changed: the tables stay -/
theorem Tabs_put {H : Hp} {a : Addr} {vs : List V} {o : HO} (ha : H a = some (.lst vs)) (t : Tabs T H) : Tabs T (upd H a o) := fun p hp => by
  obtain ⟨ps, a1, a2, a3⟩ := t p hp
  refine ⟨ps, ?_, a2, fun pos cv hcv => ?_⟩
  · rw [upd_ne (fun z => by rw [z, ha] at a1; cases a1)]
    exact a1
  · obtain ⟨c, e1, e2⟩ := a3 pos cv hcv
    refine ⟨c, e1, ?_⟩
    rw [upd_ne (fun z => by rw [z, ha] at e2; unfold LamX.CodeO at e2; cases e2)]
    exact e2
theorem Keep.put {H0 H : Hp} {a : Addr} {vs : List V} {o : HO} (k : Keep T H0 H) (hn : Fre (H0 a)) (ha : H a = some (.lst vs)) : Keep T H0 (upd H a o) :=
  ⟨fun b u e n => by rw [upd_ne (hn.ne e n)]; exact k.old b u e n, fun t => Tabs_put ha (k.tabs t)⟩
end

/-! ### what stands in a slot -/
/-- nothing that is known; data that stays; a list of this def's own hand, which it may change -/
inductive Ent where
  | no
  | va (d : D)
  | ow (ds : List D)
  | raw (a : Addr)
abbrev Fr := List Ent
structure State (T : List (Addr × Str)) (K : PySem.W.Frag) (F0 H0 : Hp) (σ : St) (F H : Hp) (ρ : Fr) : Prop where
  g : Grow T F0 H0 F H
  ln : ρ.length = σ.length
  va : ∀ (i : Nat) (d : D), ρ[i]? = some (.va d) → ∃ v, σ[i]? = some (some v) ∧ Rp K F v d
  ow : ∀ (i : Nat) (ds : List D), ρ[i]? = some (.ow ds) → ∃ a vs, σ[i]? = some (some (.ref a)) ∧ H a = some (.lst vs) ∧ F a = Option.none ∧ Fre (H0 a) ∧ RpAll K F vs ds
  dj : ∀ (i j : Nat) (ds es : List D) (a b : Addr), ρ[i]? = some (.ow ds) → ρ[j]? = some (.ow es) → σ[i]? = some (some (.ref a)) → σ[j]? = some (some (.ref b)) → i ≠ j → a ≠ b
  raw : ∀ (i : Nat) (a : Addr), ρ[i]? = some (.raw a) → σ[i]? = some (some (.ref a))
section
variable {T : List (Addr × Str)} {K : PySem.W.Frag} {F0 H0 F H F' H' : Hp} {σ : St} {ρ : Fr}
theorem State.s (S : State T K F0 H0 σ F H ρ) : Sub T F H := S.g.s
theorem State.grow (S : State T K F0 H0 σ F H ρ) (g : Grow T F H F' H') : State T K F0 H0 σ F' H' ρ where
  g := S.g.trans g
  ln := S.ln
  va := fun i d e => let ⟨v, e1, r⟩ := S.va i d e; ⟨v, e1, r.mono g.f⟩
  ow := fun i ds e => by
    obtain ⟨a, vs, e1, e2, e3, e4, r⟩ := S.ow i ds e
    refine ⟨a, vs, e1, g.h.lst e2, ?_, e4, r.mono g.f⟩
    cases q : F' a with
    | none => rfl
    | some u =>
      have z := g.n a u q e3
      rw [e2] at z; exact z.lst
  dj := S.dj
  raw := S.raw
end

/-! ### expressions -/
abbrev M (α : Type) := Fr → Option α
def EL (T : List (Addr × Str)) (K : PySem.W.Frag) (te : TE) (m : M D) : Prop := ∀ (F0 H0 : Hp) (σ : St) (F H : Hp) (ρ : Fr) (d : D), State T K F0 H0 σ F H ρ → m ρ = some d →
  ∀ Q : VK, (∀ v F' H', Grow T F H F' H' → Rp K F' v d → Q v H') → te σ H Q
def TL (T : List (Addr × Str)) (K : PySem.W.Frag) (tt : TT) (m : M Bool) : Prop := ∀ (F0 H0 : Hp) (σ : St) (F H : Hp) (ρ : Fr) (b : Bool), State T K F0 H0 σ F H ρ → m ρ = some b →
  ∀ Q : Bool → Hp → Prop, (∀ F' H', Grow T F H F' H' → Q b H') → tt σ H Q
def AL (T : List (Addr × Str)) (K : PySem.W.Frag) (ta : TA) (m : M (List D)) : Prop := ∀ (F0 H0 : Hp) (σ : St) (F H : Hp) (ρ : Fr) (ds : List D), State T K F0 H0 σ F H ρ → m ρ = some ds →
  ∀ Q : List V → Hp → Prop, (∀ vs F' H', Grow T F H F' H' → RpAll K F' vs ds → Q vs H') → ta σ H Q
def XD {ι : Type} (X : ι → Cx) (T : List (Addr × Str)) (K : PySem.W.Frag) (e : Expr) (m : M D) : Prop := ∃ t, (∀ i, PE (X i) e t) ∧ EL T K t m
def XT {ι : Type} (X : ι → Cx) (T : List (Addr × Str)) (K : PySem.W.Frag) (e : Expr) (m : M Bool) : Prop := ∃ t, (∀ i, PT (X i) e t) ∧ TL T K t m
def XW {ι : Type} (X : ι → Cx) (T : List (Addr × Str)) (K : PySem.W.Frag) (e : Expr) (m : M Bool) : Prop := ∃ t, (∀ i, PW (X i) e t) ∧ TL T K t m
def XA {ι : Type} (X : ι → Cx) (T : List (Addr × Str)) (K : PySem.W.Frag) (es : List Expr) (m : M (List D)) : Prop := ∃ t, (∀ i, PA (X i) es t) ∧ AL T K t m

def mVar (i : Nat) : M D := fun ρ => match ρ[i]? with
  | some (.va d) => some d
  | _ => none
def mC (d : D) : M D := fun _ => some d
def m1 (f : D → Option D) (a : M D) : M D := fun ρ => (a ρ).bind f
def m2 (f : D → D → Option D) (a b : M D) : M D := fun ρ => (a ρ).bind fun x => (b ρ).bind fun y => f x y
def mNil : M (List D) := fun _ => some []
def mCons (a : M D) (r : M (List D)) : M (List D) := fun ρ => (a ρ).bind fun x => (r ρ).bind fun xs => some (x :: xs)
def mA (f : List D → Option D) (a : M (List D)) : M D := fun ρ => (a ρ).bind f

section
variable {ι : Type} {T : List (Addr × Str)} {K : PySem.W.Frag} {X : ι → Cx}
theorem el_var (i : Nat) : EL T K (tVar i) (mVar i) := by
  intro F0 H0 σ F H ρ d S h Q q
  unfold mVar at h
  split at h
  · rename_i d' e
    cases h
    obtain ⟨v, e1, r⟩ := S.va i d e
    exact ⟨v, e1, q v F H (Grow.refl S.s) r⟩
  · cases h
theorem el_c {v : V} {d : D} (r : ∀ F, Rp K F v d) : EL T K (tC v) (mC d) := by
  intro F0 H0 σ F H ρ d' S h Q q
  cases h
  exact q v F H (Grow.refl S.s) (r F)
theorem xd_v (i : Nat) {x : Str} {pos : Pos} (hN : ∀ i0, (X i0).N[i]? = some x := by intro _; rfl) (hv : ∀ i0, Vis (X i0).env.scope x := by intro _; first | exact Or.inl rfl | exact Or.inr (Or.inl rfl) | exact Or.inr (Or.inr rfl)) (hd : (x == ("__debug__" : Str)) = false := by decide)
    (hcd : (x == ("__classdict__" : Str)) = false := by decide) : XD X T K (.Name x pos) (mVar i) := ⟨_, fun i0 => pe_var (hN i0) (hv i0) hd hcd, el_var i⟩
theorem xd_int {i j pos} : XD X T K (.Constant (.int i) j pos) (mC (.int i)) := ⟨_, fun i0 => pe_int, el_c fun _ => .int i⟩
theorem xd_bl {b j pos} : XD X T K (.Constant (.bool b) j pos) (mC (.bool b)) := ⟨_, fun i0 => pe_bl, el_c fun _ => .bl b⟩
theorem xd_non {j pos} : XD X T K (.Constant .none j pos) (mC .none) := ⟨_, fun i0 => pe_non, el_c fun _ => .non⟩
theorem xd_str {x j pos} : XD X T K (.Constant (.str x) j pos) (mC (.str x)) := ⟨_, fun i0 => pe_str, el_c fun _ => .str x⟩
/-- a module's constant -/
theorem xd_glob {x : Str} {v : V} {u : Value} {d : D} {pos : Pos} (hm : ∀ i0, (X i0).mg x = some u) (r : RelV v u) (rp : ∀ F, Rp K F v d) (hg : ∀ i0, Gl (X i0) x := by intro _; rfl) (hd : (x == ("__debug__" : Str)) = false := by decide) : XD X T K (.Name x pos) (mC d) :=
  ⟨_, fun i0 => pe_glob (hg i0) (hm i0) r hd, el_c rp⟩
theorem xa_nil : XA X T K [] mNil := ⟨_, fun i0 => pa_nil, by
  intro F0 H0 σ F H ρ ds S h Q q
  cases h
  exact q [] F H (Grow.refl S.s) .nil⟩
theorem al_cons {te : TE} {ta : TA} {a : M D} {r : M (List D)} (ha : EL T K te a) (hr : AL T K ta r) : AL T K (tCons te ta) (mCons a r) := by
  intro F0 H0 σ F H ρ ds S h Q q
  unfold mCons at h
  obtain ⟨x, e1, h⟩ := Option.bind_eq_some_iff.mp h
  obtain ⟨xs, e2, h⟩ := Option.bind_eq_some_iff.mp h
  cases h
  refine ha F0 H0 σ F H ρ x S e1 _ fun v F1 H1 g1 r1 => ?_
  refine hr F0 H0 σ F1 H1 ρ xs (S.grow g1) e2 _ fun vs F2 H2 g2 r2 => ?_
  exact q (v :: vs) F2 H2 (g1.trans g2) (.cons (r1.mono g2.f) r2)
theorem xa_cons {e : Expr} {es : List Expr} {a : M D} {r : M (List D)} (ha : XD X T K e a) (hr : XA X T K es r) (hs : ∀ i0, starEach (e :: es) (X i0).env = (false, eval e (X i0).env) :: starEach es (X i0).env := by intro _; rfl) : XA X T K (e :: es) (mCons a r) := by
  obtain ⟨t, p, l⟩ := ha
  obtain ⟨u, p2, l2⟩ := hr
  exact ⟨_, fun i0 => pa_cons (p i0) (p2 i0) (hs i0), al_cons l l2⟩

/-- an operator by what it makes of data -/
def OpL (T : List (Addr × Str)) (K : PySem.W.Frag) (r : R2) (f : D → D → Option D) : Prop := ∀ (F H : Hp) (x y : V) (dx dy d : D), Sub T F H → Rp K F x dx → Rp K F y dy → f dx dy = some d →
  ∀ Q : VK, (∀ v F' H', Grow T F H F' H' → Rp K F' v d → Q v H') → r x y H Q
theorem el_op {r : R2} {f : D → D → Option D} {ta tb : TE} {a b : M D} (ho : OpL T K r f) (ha : EL T K ta a) (hb : EL T K tb b) : EL T K (tOp r ta tb) (m2 f a b) := by
  intro F0 H0 σ F H ρ d S h Q q
  unfold m2 at h
  obtain ⟨x, e1, h⟩ := Option.bind_eq_some_iff.mp h
  obtain ⟨y, e2, h⟩ := Option.bind_eq_some_iff.mp h
  refine ha F0 H0 σ F H ρ x S e1 _ fun v F1 H1 g1 r1 => ?_
  refine hb F0 H0 σ F1 H1 ρ y (S.grow g1) e2 _ fun u F2 H2 g2 r2 => ?_
  exact ho F2 H2 v u x y d g2.s (r1.mono g2.f) r2 h Q fun z F3 H3 g3 r3 => q z F3 H3 ((g1.trans g2).trans g3) r3
theorem xd_op {r : R2} {f : D → D → Option D} {op : Operator} {a b : Expr} {ma mb : M D} {pos : Pos} (hr : ∀ i0, OpR (X i0) (binaryOp op) r) (ho : OpL T K r f) (ha : XD X T K a ma) (hb : XD X T K b mb) : XD X T K (.BinOp a op b pos) (m2 f ma mb) := by
  obtain ⟨t, p, l⟩ := ha
  obtain ⟨u, p2, l2⟩ := hb
  exact ⟨_, fun i0 => pe_op (hr i0) (p i0) (p2 i0), el_op ho l l2⟩
theorem xd_cmp {r : R2} {f : D → D → Option D} {op : CmpOp} {a b : Expr} {ma mb : M D} {pos : Pos} (hr : ∀ i0, OpR (X i0) (compareOp op) r) (ho : OpL T K r f) (ha : XD X T K a ma) (hb : XD X T K b mb) (hm : behindInMarks op b = false) : XD X T K (.Compare a [op] [b] pos) (m2 f ma mb) := by
  obtain ⟨t, p, l⟩ := ha
  obtain ⟨u, p2, l2⟩ := hb
  exact ⟨_, fun i0 => pe_cmpR (hr i0) (p i0) (p2 i0) hm, el_op ho l l2⟩

/-! ### tests -/
def asB : D → Option Bool
  | .bool b => some b
  | _ => none
def mB (a : M D) : M Bool := fun ρ => (a ρ).bind asB
theorem tl_test {te : TE} {a : M D} (ha : EL T K te a) : TL T K (tTest te) (mB a) := by
  intro F0 H0 σ F H ρ b S h Q q
  unfold mB at h
  obtain ⟨x, e1, h⟩ := Option.bind_eq_some_iff.mp h
  refine ha F0 H0 σ F H ρ x S e1 _ fun v F1 H1 g1 r1 => ?_
  cases x <;> simp only [asB] at h <;> try (cases h; done)
  cases h
  cases r1
  exact ⟨b, rfl, q F1 H1 g1⟩
theorem xt_cmp {r : R2} {f : D → D → Option D} {op : CmpOp} {a b : Expr} {ma mb : M D} {pos : Pos} (hr : ∀ i0, OpR (X i0) (compareOp op) r) (ho : OpL T K r f) (ha : XD X T K a ma) (hb : XD X T K b mb) (hm : behindInMarks op b = false) : XT X T K (.Compare a [op] [b] pos) (mB (m2 f ma mb)) := by
  obtain ⟨t, p, l⟩ := ha
  obtain ⟨u, p2, l2⟩ := hb
  exact ⟨_, fun i0 => pt_cmpR (hr i0) (p i0) (p2 i0) hm, tl_test (el_op ho l l2)⟩
/-- truth of data -/
def dTru : D → Option Bool
  | .none => some false
  | .bool b => some b
  | .int i => some (i != 0)
  | .str x => if x.length ≤ sizeLine then some (x.length != 0) else none
  | .list xs => some (!xs.isEmpty)
  | .tuple xs => some (!xs.isEmpty)
  | .dict xs => some (!xs.isEmpty)
def mTru (a : M D) : M Bool := fun ρ => (a ρ).bind dTru
theorem isEmpty_of {vs : List V} {ds : List D} {H : Hp} (r : RpAll K H vs ds) : vs.isEmpty = ds.isEmpty := by
  cases r <;> rfl
theorem truV_of {H : Hp} {v : V} {d : D} {b : Bool} (r : Rp K H v d) (h : dTru d = some b) : TruV K v H b := by
  cases r with
  | non => cases h; rfl
  | bl b' => cases h; rfl
  | int i => cases h; rfl
  | str x =>
    simp only [dTru] at h
    split at h
    · rename_i hz
      cases h
      refine ⟨hz, ?_⟩
      show (x.length != 0) = (((x.length : Nat) : Int) != 0)
      rw [Bool.eq_iff_iff]
      simp only [bne_iff_ne, ne_eq]
      omega
    · cases h
  | lst hs r => cases h; exact .inl ⟨_, hs, by rw [isEmpty_of r]⟩
  | tup hs r => cases h; exact .inr (.inl ⟨_, hs, by rw [isEmpty_of r]⟩)
  | dct e r => cases h; exact .inr (.inr ⟨_, e, by cases r <;> rfl⟩)
theorem xt_tru {e : Expr} {a : M D} (ha : XD X T K e a) (he : ∀ i0, ∀ whole : Sem Value, PySem.isTrue e (X i0).env whole = (do let v ← whole; standAt e.pos; holding [v] (truthy v)) := by intro _; intro _; rfl) (k : ∀ i0, (X i0).K = K := by intro _; rfl) : XT X T K e (mTru a) := by
  obtain ⟨t, p, l⟩ := ha
  refine ⟨fun σ H Q => t σ H fun x H' => ∃ k, TruV K x H' k ∧ Q k H', fun i0 => by have e := k i0; subst e; exact pt_truth (p i0) (he i0), ?_⟩
  intro F0 H0 σ F H ρ b S h Q q
  unfold mTru at h
  obtain ⟨x, e1, h⟩ := Option.bind_eq_some_iff.mp h
  refine l F0 H0 σ F H ρ x S e1 _ fun v F1 H1 g1 r1 => ?_
  exact ⟨b, truV_of (r1.mono g1.s.same) h, q F1 H1 g1⟩
def mAnd (a b : M Bool) : M Bool := fun ρ => (a ρ).bind fun x => if x = true then b ρ else some false
def mOr (a b : M Bool) : M Bool := fun ρ => (a ρ).bind fun x => if x = true then some true else b ρ
def mNot (a : M Bool) : M Bool := fun ρ => (a ρ).bind fun x => some (!x)
theorem xt_not {e : Expr} {a : M Bool} {pos : Pos} (ha : XT X T K e a) : XT X T K (.UnaryOp .Not e pos) (mNot a) := by
  obtain ⟨t, p, l⟩ := ha
  refine ⟨_, fun i0 => pt_not (p i0), ?_⟩
  intro F0 H0 σ F H ρ b S h Q q
  unfold mNot at h
  obtain ⟨x, e1, h⟩ := Option.bind_eq_some_iff.mp h
  cases h
  exact l F0 H0 σ F H ρ x S e1 _ fun F1 H1 g1 => q F1 H1 g1
theorem xw_and1 {e : Expr} {a : M Bool} {pos : Pos} (ha : XT X T K e a) : XW X T K (.BoolOp .And [e] pos) a := by
  obtain ⟨t, p, l⟩ := ha
  exact ⟨_, fun i0 => pw_and1 (p i0), l⟩
theorem xw_or1 {e : Expr} {a : M Bool} {pos : Pos} (ha : XT X T K e a) : XW X T K (.BoolOp .Or [e] pos) a := by
  obtain ⟨t, p, l⟩ := ha
  exact ⟨_, fun i0 => pw_or1 (p i0), l⟩
theorem xw_and {e f : Expr} {es : List Expr} {a b : M Bool} {pos : Pos} (ha : XT X T K e a) (hb : XW X T K (.BoolOp .And (f :: es) pos) b) : XW X T K (.BoolOp .And (e :: f :: es) pos) (mAnd a b) := by
  obtain ⟨t, p, l⟩ := ha
  obtain ⟨u, p2, l2⟩ := hb
  refine ⟨_, fun i0 => pw_and (p i0) (p2 i0), ?_⟩
  intro F0 H0 σ F H ρ b S h Q q
  unfold mAnd at h
  obtain ⟨x, e1, h⟩ := Option.bind_eq_some_iff.mp h
  refine l F0 H0 σ F H ρ x S e1 _ fun F1 H1 g1 => ?_
  cases x with
  | true =>
    rw [if_pos rfl] at h ⊢
    exact l2 F0 H0 σ F1 H1 ρ b (S.grow g1) h _ fun F2 H2 g2 => q F2 H2 (g1.trans g2)
  | false =>
    rw [if_neg Bool.false_ne_true] at h ⊢
    cases h
    exact q F1 H1 g1
theorem xw_or {e f : Expr} {es : List Expr} {a b : M Bool} {pos : Pos} (ha : XT X T K e a) (hb : XW X T K (.BoolOp .Or (f :: es) pos) b) : XW X T K (.BoolOp .Or (e :: f :: es) pos) (mOr a b) := by
  obtain ⟨t, p, l⟩ := ha
  obtain ⟨u, p2, l2⟩ := hb
  refine ⟨_, fun i0 => pw_or (p i0) (p2 i0), ?_⟩
  intro F0 H0 σ F H ρ b S h Q q
  unfold mOr at h
  obtain ⟨x, e1, h⟩ := Option.bind_eq_some_iff.mp h
  refine l F0 H0 σ F H ρ x S e1 _ fun F1 H1 g1 => ?_
  cases x with
  | true =>
    rw [if_pos rfl] at h ⊢
    cases h
    exact q F1 H1 g1
  | false =>
    rw [if_neg Bool.false_ne_true] at h ⊢
    exact l2 F0 H0 σ F1 H1 ρ b (S.grow g1) h _ fun F2 H2 g2 => q F2 H2 (g1.trans g2)
theorem XW.pt {e : Expr} {a : M Bool} (h : XW X T K e a) : XT X T K e a := by
  obtain ⟨t, p, l⟩ := h
  exact ⟨_, fun i0 => (p i0).pt, l⟩
/-- a and b, a or b, not a as values: all but the last True or False -/
def mAndV (a b : M D) : M D := fun ρ => (a ρ).bind fun x => match x with
  | .bool true => b ρ
  | .bool false => some (.bool false)
  | _ => none
def mOrV (a b : M D) : M D := fun ρ => (a ρ).bind fun x => match x with
  | .bool true => some (.bool true)
  | .bool false => b ρ
  | _ => none
def mNotV (a : M D) : M D := fun ρ => (a ρ).bind fun x => match x with
  | .bool c => some (.bool (!c))
  | _ => none
theorem xd_one {op} {e : Expr} {a : M D} {pos : Pos} (ha : XD X T K e a) : XD X T K (.BoolOp op [e] pos) a := by
  obtain ⟨t, p, l⟩ := ha
  exact ⟨_, fun i0 => pe_one (p i0), l⟩
theorem xd_and {e f : Expr} {es : List Expr} {a b : M D} {pos : Pos} (ha : XD X T K e a) (hb : XD X T K (.BoolOp .And (f :: es) pos) b) : XD X T K (.BoolOp .And (e :: f :: es) pos) (mAndV a b) := by
  obtain ⟨t, p, l⟩ := ha
  obtain ⟨u, p2, l2⟩ := hb
  refine ⟨_, fun i0 => pe_and (p i0) (p2 i0), ?_⟩
  intro F0 H0 σ F H ρ d S h Q q
  unfold mAndV at h
  obtain ⟨x, e1, h⟩ := Option.bind_eq_some_iff.mp h
  refine l F0 H0 σ F H ρ x S e1 _ fun v F1 H1 g1 r1 => ?_
  split at h
  · cases r1
    refine ⟨true, rfl, ?_⟩
    rw [if_pos rfl]
    exact l2 F0 H0 σ F1 H1 ρ d (S.grow g1) h _ fun v2 F2 H2 g2 r2 => q v2 F2 H2 (g1.trans g2) r2
  · cases r1
    cases h
    refine ⟨false, rfl, ?_⟩
    rw [if_neg Bool.false_ne_true]
    exact q _ F1 H1 g1 (.bl false)
  · cases h
theorem xd_or {e f : Expr} {es : List Expr} {a b : M D} {pos : Pos} (ha : XD X T K e a) (hb : XD X T K (.BoolOp .Or (f :: es) pos) b) : XD X T K (.BoolOp .Or (e :: f :: es) pos) (mOrV a b) := by
  obtain ⟨t, p, l⟩ := ha
  obtain ⟨u, p2, l2⟩ := hb
  refine ⟨_, fun i0 => pe_or (p i0) (p2 i0), ?_⟩
  intro F0 H0 σ F H ρ d S h Q q
  unfold mOrV at h
  obtain ⟨x, e1, h⟩ := Option.bind_eq_some_iff.mp h
  refine l F0 H0 σ F H ρ x S e1 _ fun v F1 H1 g1 r1 => ?_
  split at h
  · cases r1
    cases h
    refine ⟨true, rfl, ?_⟩
    rw [if_pos rfl]
    exact q _ F1 H1 g1 (.bl true)
  · cases r1
    refine ⟨false, rfl, ?_⟩
    rw [if_neg Bool.false_ne_true]
    exact l2 F0 H0 σ F1 H1 ρ d (S.grow g1) h _ fun v2 F2 H2 g2 r2 => q v2 F2 H2 (g1.trans g2) r2
  · cases h
theorem xd_not {e : Expr} {a : M D} {pos : Pos} (ha : XD X T K e a) : XD X T K (.UnaryOp .Not e pos) (mNotV a) := by
  obtain ⟨t, p, l⟩ := ha
  refine ⟨_, fun i0 => pe_not (p i0), ?_⟩
  intro F0 H0 σ F H ρ d S h Q q
  unfold mNotV at h
  obtain ⟨x, e1, h⟩ := Option.bind_eq_some_iff.mp h
  refine l F0 H0 σ F H ρ x S e1 _ fun v F1 H1 g1 r1 => ?_
  split at h
  · cases r1
    cases h
    exact ⟨_, rfl, q _ F1 H1 g1 (.bl _)⟩
  · cases h
def mIf (c : M Bool) (a b : M D) : M D := fun ρ => (c ρ).bind fun x => if x = true then a ρ else b ρ
theorem xd_if {c a b : Expr} {mc : M Bool} {ma mb : M D} {pos : Pos} (hc : XT X T K c mc) (ha : XD X T K a ma) (hb : XD X T K b mb) : XD X T K (.IfExp c a b pos) (mIf mc ma mb) := by
  obtain ⟨t, p, l⟩ := ha
  obtain ⟨u, p2, l2⟩ := hb
  obtain ⟨w, p3, l3⟩ := hc
  refine ⟨_, fun i0 => pe_ifExp (p3 i0) (p i0) (p2 i0), ?_⟩
  intro F0 H0 σ F H ρ d S h Q q
  unfold mIf at h
  obtain ⟨x, e1, h⟩ := Option.bind_eq_some_iff.mp h
  refine l3 F0 H0 σ F H ρ x S e1 _ fun F1 H1 g1 => ?_
  cases x with
  | true =>
    rw [if_pos rfl] at h ⊢
    exact l F0 H0 σ F1 H1 ρ d (S.grow g1) h _ fun v F2 H2 g2 r2 => q v F2 H2 (g1.trans g2) r2
  | false =>
    rw [if_neg Bool.false_ne_true] at h ⊢
    exact l2 F0 H0 σ F1 H1 ρ d (S.grow g1) h _ fun v F2 H2 g2 r2 => q v F2 H2 (g1.trans g2) r2
end
end Pd

namespace Pd
open PySem PySem.Spec PyProof.Rows L2
section
variable {ι : Type} {T : List (Addr × Str)} {K : PySem.W.Frag} {X : ι → Cx}
/-! ### operators on data -/
def rCatS (K : PySem.W.Frag) : R2 := fun x y H Q => ∃ l b xs zs, x = .ref l ∧ y = .ref b ∧ SqL K H l xs ∧ SqL K H b zs ∧ xs.length + zs.length ≤ sizeLine ∧ ∀ p, H p = none → Q (.ref p) (upd H p (.lst (xs ++ zs)))
theorem op_catS {Y : Cx} : OpR Y (binaryOp .Add) (rCatS Y.K) := by
  intro pins s σ H x y v u Q I rx ry h
  obtain ⟨l, b, xs, zs, rfl, rfl, hH, hB, hz, q⟩ := h
  cases rx
  cases ry
  obtain ⟨its, r, pl, z⟩ := I.list hH
  obtain ⟨its2, r2, pl2, z2⟩ := I.list hB
  have hl := r.length
  have hl2 := r2.length
  obtain ⟨⟨cls, dd, data, sl⟩, n, ho, hc, hdd, hd⟩ := id pl
  obtain ⟨⟨cls2, dd2, data2, sl2⟩, n2, ho2, hc2, hdd2, hd2⟩ := id pl2
  simp only at hc hd hc2 hd2 hdd hdd2
  subst hc hd hc2 hd2 hdd hdd2
  refine concat_meets ⟨_, ho, rfl⟩ ⟨_, ho2, rfl⟩ noFill_list_add seq_list_add PySem.F.slot_list_add PySem.F.entry_list_add (PySem.F.args_list_add_2 _ _) (list_addW l b its.toArray its2.toArray n n2 none none sl sl2 (by simp only [List.size_toArray]; omega)) ⟨ho, ho2, ?_⟩
  have ea : its.toArray ++ its2.toArray = (its ++ its2).toArray := by simp
  rw [ea]
  exact ⟨.ref _, _, I.lnew (t' := s.toks) (r.append r2) (by rw [List.length_append]; omega), rfl, q _ I.fresh⟩
def rPlus (K : PySem.W.Frag) : R2 := fun x y H Q => rI0 (fun i j => V.int (i + j)) x y H Q ∨ (∃ i j, x = V.str i ∧ y = V.str j ∧ i.length + j.length ≤ sizeLine ∧ Q (.str (i ++ j)) H) ∨ rCatS K x y H Q ∨ rCatA K x y H Q
theorem op_plus {Y : Cx} : OpR Y (binaryOp .Add) (rPlus Y.K) := OpR.or op_add (OpR.or op_add_str (OpR.or op_catS op_catA))
def dAdd : D → D → Option D
  | .int a, .int b => some (.int (a + b))
  | .str a, .str b => if a.length + b.length ≤ sizeLine then some (.str (a ++ b)) else none
  | .list a, .list b => if a.length + b.length ≤ sizeLine then some (.list (a ++ b)) else none
  | .tuple a, .tuple b => if a.length + b.length ≤ sizeLine then some (.tuple (a ++ b)) else none
  | _, _ => none
theorem ol_plus : OpL T K (rPlus K) dAdd := by
  intro F H x y dx dy d s rx ry h Q q
  cases rx <;> cases ry <;> simp only [dAdd] at h <;> try (cases h; done)
  · cases h
    exact .inl ⟨_, _, rfl, rfl, q _ F H (Grow.refl s) (.int _)⟩
  · split at h
    · rename_i hz
      cases h
      exact .inr (.inl ⟨_, _, rfl, rfl, hz, q _ F H (Grow.refl s) (.str _)⟩)
    · cases h
  · rename_i a xs ds hs r b ys es hs2 r2
    split at h
    · rename_i hz
      cases h
      refine .inr (.inr (.inl ⟨a, b, xs, ys, rfl, rfl, s.same.seq hs, s.same.seq hs2, by rw [r.length, r2.length]; exact hz, fun p hp => ?_⟩))
      have g := Grow.new (T := T) (o := .lst (xs ++ ys)) s hp
      exact q _ _ _ g (.lst (SqL.of upd_same) ((r.append r2).mono g.f))
    · cases h
  · rename_i a xs ds hs r b ys es hs2 r2
    split at h
    · rename_i hz
      cases h
      refine .inr (.inr (.inr ⟨a, b, xs, ys, rfl, rfl, SqT_same s.same hs, SqT_same s.same hs2, by rw [r.length, r2.length]; exact hz, fun e => ?_, fun e1 e2 => ?_, fun e1 e2 p hp => ?_⟩))
      · subst e
        cases r
        exact q _ F H (Grow.refl s) (.tup hs2 r2)
      · subst e2
        cases r2
        rw [List.append_nil] at q
        exact q _ F H (Grow.refl s) (.tup hs r)
      · have g := Grow.new (T := T) (o := .tup (xs ++ ys)) s hp
        exact q _ _ _ g (.tup (SqT.of upd_same) ((r.append r2).mono g.f))
    · cases h
theorem xd_add {a b : Expr} {ma mb : M D} {pos : Pos} (ha : XD X T K a ma) (hb : XD X T K b mb) (k : ∀ i0, (X i0).K = K := by intro _; rfl) : XD X T K (.BinOp a .Add b pos) (m2 dAdd ma mb) := xd_op (fun i0 => by have e := k i0; subst e; exact op_plus) ol_plus ha hb

def dSub : D → D → Option D
  | .int a, .int b => some (.int (a - b))
  | _, _ => none
theorem xd_sub {a b : Expr} {ma mb : M D} {pos : Pos} (ha : XD X T K a ma) (hb : XD X T K b mb) : XD X T K (.BinOp a .Sub b pos) (m2 dSub ma mb) := by
  refine xd_op (fun _ => op_sub) ?_ ha hb
  intro F H x y dx dy d s rx ry h Q q
  cases rx <;> cases ry <;> simp only [dSub] at h <;> try (cases h; done)
  cases h
  exact ⟨_, _, rfl, rfl, q _ F H (Grow.refl s) (.int _)⟩
def isSmall (i : Int) : Bool := decide (-(2 ^ 64) < i) && decide (i < 2 ^ 64)
theorem isSmall_iff {i : Int} : isSmall i = true ↔ -(2 ^ 64) < i ∧ i < 2 ^ 64 := by
  unfold isSmall
  rw [Bool.and_eq_true, decide_eq_true_iff, decide_eq_true_iff]
def dMul : D → D → Option D
  | .int a, .int b => if isSmall a || isSmall b then some (.int (a * b)) else none
  | _, _ => none
theorem xd_mul {a b : Expr} {ma mb : M D} {pos : Pos} (ha : XD X T K a ma) (hb : XD X T K b mb) : XD X T K (.BinOp a .Mult b pos) (m2 dMul ma mb) := by
  refine xd_op (fun _ => op_mul) ?_ ha hb
  intro F H x y dx dy d s rx ry h Q q
  cases rx <;> cases ry <;> simp only [dMul] at h <;> try (cases h; done)
  split at h
  · rename_i hz
    cases h
    rw [Bool.or_eq_true, isSmall_iff, isSmall_iff] at hz
    exact ⟨_, _, rfl, rfl, hz, q _ F H (Grow.refl s) (.int _)⟩
  · cases h
def dFdiv : D → D → Option D
  | .int a, .int b => if 0 < b ∧ b < 1073741824 then some (.int (a / b)) else none
  | _, _ => none
theorem xd_fdiv {a b : Expr} {ma mb : M D} {pos : Pos} (ha : XD X T K a ma) (hb : XD X T K b mb) : XD X T K (.BinOp a .FloorDiv b pos) (m2 dFdiv ma mb) := by
  refine xd_op (fun _ => op_fdiv) ?_ ha hb
  intro F H x y dx dy d s rx ry h Q q
  cases rx <;> cases ry <;> simp only [dFdiv] at h <;> try (cases h; done)
  split at h
  · rename_i hz
    cases h
    exact ⟨_, _, rfl, rfl, hz, q _ F H (Grow.refl s) (.int _)⟩
  · cases h
def dMod : D → D → Option D
  | .int a, .int b => if 0 < b then some (.int (a % b)) else none
  | _, _ => none
theorem xd_mod {a b : Expr} {ma mb : M D} {pos : Pos} (ha : XD X T K a ma) (hb : XD X T K b mb) : XD X T K (.BinOp a .Mod b pos) (m2 dMod ma mb) := by
  refine xd_op (fun _ => op_mod) ?_ ha hb
  intro F H x y dx dy d s rx ry h Q q
  cases rx <;> cases ry <;> simp only [dMod] at h <;> try (cases h; done)
  split at h
  · rename_i hz
    cases h
    exact ⟨_, _, rfl, rfl, hz, q _ F H (Grow.refl s) (.int _)⟩
  · cases h
def dPow : D → D → Option D
  | .int a, .int b => if 0 ≤ b ∧ b ≤ 1000000 ∧ a.natAbs < 2 ^ 64 then some (.int (a ^ b.toNat)) else none
  | _, _ => none
theorem xd_pow {a b : Expr} {ma mb : M D} {pos : Pos} (ha : XD X T K a ma) (hb : XD X T K b mb) : XD X T K (.BinOp a .Pow b pos) (m2 dPow ma mb) := by
  refine xd_op (fun _ => op_pow) ?_ ha hb
  intro F H x y dx dy d s rx ry h Q q
  cases rx <;> cases ry <;> simp only [dPow] at h <;> try (cases h; done)
  split at h
  · rename_i hz
    cases h
    exact ⟨_, _, rfl, rfl, hz, q _ F H (Grow.refl s) (.int _)⟩
  · cases h
def dNeg : D → Option D
  | .int a => some (.int (-a))
  | _ => none
theorem xd_neg {a : Expr} {ma : M D} {pos : Pos} (ha : XD X T K a ma) : XD X T K (.UnaryOp .USub a pos) (m1 dNeg ma) := by
  obtain ⟨t, p, l⟩ := ha
  refine ⟨_, fun i0 => pe_un un_neg (p i0), ?_⟩
  intro F0 H0 σ F H ρ d S h Q q
  unfold m1 at h
  obtain ⟨x, e1, h⟩ := Option.bind_eq_some_iff.mp h
  refine l F0 H0 σ F H ρ x S e1 _ fun v F1 H1 g1 r1 => ?_
  cases r1 <;> simp only [dNeg] at h <;> try (cases h; done)
  cases h
  exact ⟨_, rfl, q _ F1 H1 g1 (.int _)⟩

/-! ### comparisons -/
/-- pairs and the like: tuples of ints -/
def asInts : List D → Option (List Int)
  | [] => some []
  | .int i :: r => (asInts r).map (i :: ·)
  | _ :: _ => none
theorem asInts_rp {H : Hp} : ∀ {vs : List V} {ds : List D} {ns : List Int}, RpAll K H vs ds → asInts ds = some ns → vs = ns.map V.int ∧ ds = ns.map PyData.int
  | _, _, _, .nil, h => by cases h; exact ⟨rfl, rfl⟩
  | _, _, _, .cons hv r, h => by
    cases hv <;> simp only [asInts] at h <;> try (cases h; done)
    rename_i i
    obtain ⟨ms, e, h⟩ := Option.map_eq_some_iff.mp h
    subst h
    obtain ⟨e1, e2⟩ := asInts_rp r e
    subst e1 e2
    exact ⟨rfl, rfl⟩
theorem asInts_map : ∀ ns : List Int, asInts (ns.map PyData.int) = some ns
  | [] => rfl
  | n :: ns => by
    show (asInts (ns.map PyData.int)).map (n :: ·) = _
    rw [asInts_map ns]; rfl
def dLt : D → D → Option D
  | .int a, .int b => some (.bool (decide (a < b)))
  | _, _ => none
def dLe : D → D → Option D
  | .int a, .int b => some (.bool (decide (a ≤ b)))
  | .str a, .str b => some (.bool (!decide (b.cps.toList < a.cps.toList)))
  | _, _ => none
def dGt : D → D → Option D
  | .int a, .int b => some (.bool (decide (b < a)))
  | _, _ => none
def dGe : D → D → Option D
  | .int a, .int b => some (.bool (decide (b ≤ a)))
  | _, _ => none
def dEq : D → D → Option D := fun a b => if SeqAt.shaped a && SeqAt.shaped b then some (.bool (PyData.eqv a b)) else none
def dNe : D → D → Option D := fun a b => if SeqAt.shaped a && SeqAt.shaped b then some (.bool (!PyData.eqv a b)) else none
def dIsN : D → D → Option D
  | a, .none => some (.bool (match a with | .none => true | _ => false))
  | _, _ => none
def dNotN : D → D → Option D
  | a, .none => some (.bool (match a with | .none => false | _ => true))
  | _, _ => none
def dIsB : D → D → Option D
  | .bool a, .bool b => some (.bool (decide (a = b)))
  | _, _ => none
def dNotB : D → D → Option D
  | .bool a, .bool b => some (.bool (!decide (a = b)))
  | _, _ => none
theorem ol_lt : OpL T K (rI0 fun i j => .bl (decide (i < j))) dLt := by
  intro F H x y dx dy d s rx ry h Q q
  cases rx <;> cases ry <;> simp only [dLt] at h <;> try (cases h; done)
  cases h
  exact ⟨_, _, rfl, rfl, q _ F H (Grow.refl s) (.bl _)⟩
def rLe2 : R2 := fun x y H Q => rI0 (fun i j => V.bl (decide (i ≤ j))) x y H Q ∨ (∃ i j, x = V.str i ∧ y = V.str j ∧ Q (.bl (!decide (j.cps.toList < i.cps.toList))) H)
theorem op_le2 {Y : Cx} : OpR Y (compareOp .LtE) rLe2 := OpR.or op_le op_le_str
theorem ol_le : OpL T K rLe2 dLe := by
  intro F H x y dx dy d s rx ry h Q q
  cases rx <;> cases ry <;> simp only [dLe] at h <;> try (cases h; done)
  · cases h
    exact .inl ⟨_, _, rfl, rfl, q _ F H (Grow.refl s) (.bl _)⟩
  · cases h
    exact .inr ⟨_, _, rfl, rfl, q _ F H (Grow.refl s) (.bl _)⟩
theorem ol_gt : OpL T K (rI0 fun i j => .bl (decide (j < i))) dGt := by
  intro F H x y dx dy d s rx ry h Q q
  cases rx <;> cases ry <;> simp only [dGt] at h <;> try (cases h; done)
  cases h
  exact ⟨_, _, rfl, rfl, q _ F H (Grow.refl s) (.bl _)⟩
theorem ol_ge : OpL T K (rI0 fun i j => .bl (decide (j ≤ i))) dGe := by
  intro F H x y dx dy d s rx ry h Q q
  cases rx <;> cases ry <;> simp only [dGe] at h <;> try (cases h; done)
  cases h
  exact ⟨_, _, rfl, rfl, q _ F H (Grow.refl s) (.bl _)⟩
theorem ol_eq : OpL T K (rEqD K) dEq := by
  intro F H x y dx dy d s rx ry h Q q
  unfold dEq at h
  split at h
  · rename_i hz
    rw [Bool.and_eq_true] at hz
    cases h
    exact ⟨dx, dy, (rx.mono s.same).dps hz.1, (ry.mono s.same).dps hz.2, hz.1, hz.2, q _ F H (Grow.refl s) (.bl _)⟩
  · cases h
theorem ol_ne : OpL T K (rNeD K) dNe := by
  intro F H x y dx dy d s rx ry h Q q
  unfold dNe at h
  split at h
  · rename_i hz
    rw [Bool.and_eq_true] at hz
    cases h
    exact ⟨dx, dy, (rx.mono s.same).dps hz.1, (ry.mono s.same).dps hz.2, hz.1, hz.2, q _ F H (Grow.refl s) (.bl _)⟩
  · cases h
theorem ol_isN : OpL T K (fun x y H Q => y = .non ∧ Q (.bl (decide (x = .non))) H) dIsN := by
  intro F H x y dx dy d s rx ry h Q q
  cases ry <;> simp only [dIsN] at h <;> try (cases h; done)
  refine ⟨rfl, ?_⟩
  cases rx <;> cases h <;> exact q _ F H (Grow.refl s) (.bl _)
theorem ol_notN : OpL T K (fun x y H Q => y = .non ∧ Q (.bl (!decide (x = .non))) H) dNotN := by
  intro F H x y dx dy d s rx ry h Q q
  cases ry <;> simp only [dNotN] at h <;> try (cases h; done)
  refine ⟨rfl, ?_⟩
  cases rx <;> cases h <;> exact q _ F H (Grow.refl s) (.bl _)
theorem ol_isB : OpL T K (fun x y H Q => ∃ a b, x = .bl a ∧ y = .bl b ∧ Q (.bl (decide (a = b))) H) dIsB := by
  intro F H x y dx dy d s rx ry h Q q
  cases rx <;> cases ry <;> simp only [dIsB] at h <;> try (cases h; done)
  cases h
  exact ⟨_, _, rfl, rfl, q _ F H (Grow.refl s) (.bl _)⟩
theorem ol_notB : OpL T K (fun x y H Q => ∃ a b, x = .bl a ∧ y = .bl b ∧ Q (.bl (!decide (a = b))) H) dNotB := by
  intro F H x y dx dy d s rx ry h Q q
  cases rx <;> cases ry <;> simp only [dNotB] at h <;> try (cases h; done)
  cases h
  exact ⟨_, _, rfl, rfl, q _ F H (Grow.refl s) (.bl _)⟩
/-- what is compared flat -/
def flatD : D → Bool
  | .none => true
  | .bool _ => true
  | .int _ => true
  | .str _ => true
  | _ => false
theorem flatD_v {H : Hp} {v : V} {d : D} (r : Rp K H v d) (h : flatD d = true) : flatV v = true := by
  cases r <;> first | rfl | (simp only [flatD] at h; cases h)
theorem flatAll_v {H : Hp} : ∀ {vs : List V} {ds : List D}, RpAll K H vs ds → ds.all flatD = true → vs.all flatV = true
  | _, _, .nil, _ => rfl
  | _, _, .cons hv r, h => by
    rw [List.all_cons, Bool.and_eq_true] at h ⊢
    exact ⟨flatD_v hv h.1, flatAll_v r h.2⟩
theorem eqV_eqv {H : Hp} {v w : V} {d e : D} (r : Rp K H v d) (r2 : Rp K H w e) (h : flatD d = true) (h2 : flatD e = true) : eqV v w = PyData.eqv d e := by
  cases r <;> (first | (simp only [flatD] at h; cases h; done) | skip) <;> cases r2 <;> (first | (simp only [flatD] at h2; cases h2; done) | rfl)
theorem inV_any {H : Hp} {w : V} {e : D} (r2 : Rp K H w e) (h2 : flatD e = true) : ∀ {vs : List V} {ds : List D}, RpAll K H vs ds → ds.all flatD = true → inV w vs = ds.any fun z => PyData.eqv z e
  | _, _, .nil, _ => rfl
  | _, _, .cons hv r, h => by
    rw [List.all_cons, Bool.and_eq_true] at h
    show (eqV _ w || inV w _) = (_ || _)
    rw [eqV_eqv hv r2 h.1 h2, inV_any r2 h2 r h.2]
/-- x in y -/
def inD : D → D → Option Bool
  | .str x, .str z => match x.cps with
    | ⟨[c]⟩ => some (decide (c ∈ z.cps.toList))
    | _ => none
  | x, .list ys => if flatD x && ys.all flatD then some (ys.any fun z => PyData.eqv z x) else if SeqAt.shaped x && SeqAt.shaped (.list ys) then some (ys.any fun z => PyData.eqv z x) else none
  | x, .tuple ys => if flatD x && ys.all flatD then some (ys.any fun z => PyData.eqv z x) else none
  | _, _ => none
def dIn : D → D → Option D := fun x y => (inD x y).map fun b => .bool b
def dNotIn : D → D → Option D := fun x y => (inD x y).map fun b => .bool (!b)
def rIn3 (K : PySem.W.Frag) : R2 := fun x y H Q => rInS x y H Q ∨ rIn K false x y H Q ∨ rInD K x y H Q
def rNotIn3 (K : PySem.W.Frag) : R2 := fun x y H Q => rNotInS x y H Q ∨ rIn K true x y H Q ∨ rNotInD K x y H Q
theorem op_in3 {Y : Cx} (hu : Y.A.units + 65 < cLine) : OpR Y (compareOp .In) (rIn3 Y.K) := OpR.or op_inS (OpR.or op_in_seq (op_inD hu))
theorem op_notIn3 {Y : Cx} (hu : Y.A.units + 65 < cLine) : OpR Y (compareOp .NotIn) (rNotIn3 Y.K) := OpR.or op_notInS (OpR.or op_notIn_seq (op_notInD hu))
theorem inD_str {x z : Str} {b : Bool} (h : inD (.str x) (.str z) = some b) : ∃ c, x = ⟨#[c]⟩ ∧ b = decide (c ∈ z.cps.toList) := by
  obtain ⟨⟨l⟩⟩ := x
  match l, h with
  | [c], h =>
    simp only [inD] at h
    exact ⟨c, rfl, (Option.some.inj h).symm⟩
  | [], h => simp [inD] at h
  | _ :: _ :: _, h => simp [inD] at h
theorem inD_list {x : D} {ys : List D} {b : Bool} (h : inD x (.list ys) = some b) : b = (ys.any fun z => PyData.eqv z x) ∧ ((flatD x = true ∧ ys.all flatD = true) ∨ (SeqAt.shaped x = true ∧ SeqAt.shaped (.list ys) = true)) := by
  have h' : (if flatD x && ys.all flatD then some (ys.any fun z => PyData.eqv z x) else if SeqAt.shaped x && SeqAt.shaped (.list ys) then some (ys.any fun z => PyData.eqv z x) else Option.none) = some b := by
    cases x <;> exact h
  split at h'
  · rename_i hz
    rw [Bool.and_eq_true] at hz
    exact ⟨(Option.some.inj h').symm, .inl hz⟩
  · split at h'
    · rename_i hz
      rw [Bool.and_eq_true] at hz
      exact ⟨(Option.some.inj h').symm, .inr hz⟩
    · cases h'
theorem inD_tuple {x : D} {ys : List D} {b : Bool} (h : inD x (.tuple ys) = some b) : b = (ys.any fun z => PyData.eqv z x) ∧ flatD x = true ∧ ys.all flatD = true := by
  have h' : (if flatD x && ys.all flatD then some (ys.any fun z => PyData.eqv z x) else Option.none) = some b := by
    cases x <;> exact h
  split at h'
  · rename_i hz
    rw [Bool.and_eq_true] at hz
    exact ⟨(Option.some.inj h').symm, hz⟩
  · cases h'
theorem inD_cases {F H : Hp} {x y : V} {dx dy : D} {b : Bool} (s : Sub T F H) (rx : Rp K F x dx) (ry : Rp K F y dy) (h : inD dx dy = some b) :
    (∃ (c : Nat) (z : Str), x = .str ⟨#[c]⟩ ∧ y = .str z ∧ b = decide (c ∈ z.cps.toList)) ∨
    (∃ p xs, y = .ref p ∧ (SqL K H p xs ∨ SqT K H p xs) ∧ flatV x = true ∧ xs.all flatV = true ∧ b = inV x xs) ∨
    (∃ d ds, Dp K H x d ∧ Dp K H y (.list ds) ∧ SeqAt.shaped d = true ∧ SeqAt.shaped (.list ds) = true ∧ b = ds.any fun z => PyData.eqv z d) := by
  cases ry with
  | non => cases dx <;> simp [inD] at h
  | bl _ => cases dx <;> simp [inD] at h
  | int _ => cases dx <;> simp [inD] at h
  | dct _ _ => cases dx <;> simp [inD] at h
  | str z =>
    cases rx <;> (first | (simp [inD] at h; done) | skip)
    obtain ⟨c, e, h2⟩ := inD_str h
    subst e
    exact .inl ⟨c, z, rfl, rfl, h2⟩
  | lst hs r =>
    obtain ⟨e, h | h⟩ := inD_list h
    · exact .inr (.inl ⟨_, _, rfl, .inl (s.same.seq hs), flatD_v rx h.1, flatAll_v r h.2, by rw [e, inV_any rx h.1 r h.2]⟩)
    · exact .inr (.inr ⟨dx, _, (rx.mono s.same).dps h.1, ((Rp.lst hs r).mono s.same).dps h.2, h.1, h.2, e⟩)
  | tup hs r =>
    obtain ⟨e, h1, h2⟩ := inD_tuple h
    exact .inr (.inl ⟨_, _, rfl, .inr (SqT_same s.same hs), flatD_v rx h1, flatAll_v r h2, by rw [e, inV_any rx h1 r h2]⟩)
theorem ol_in : OpL T K (rIn3 K) dIn := by
  intro F H x y dx dy d s rx ry h Q q
  unfold dIn at h
  obtain ⟨b, e, h⟩ := Option.map_eq_some_iff.mp h
  subst h
  have fin : Q (.bl b) H := q _ F H (Grow.refl s) (.bl b)
  rcases inD_cases s rx ry e with ⟨c, z, rfl, rfl, rfl⟩ | ⟨p, xs, rfl, h1, h2, h3, rfl⟩ | ⟨d1, ds, h1, h2, h3, h4, rfl⟩
  · exact .inl ⟨c, z, rfl, rfl, fin⟩
  · exact .inr (.inl ⟨p, xs, rfl, h1, h2, h3, fin⟩)
  · exact .inr (.inr ⟨d1, ds, h1, h2, h3, h4, fin⟩)
theorem ol_notIn : OpL T K (rNotIn3 K) dNotIn := by
  intro F H x y dx dy d s rx ry h Q q
  unfold dNotIn at h
  obtain ⟨b, e, h⟩ := Option.map_eq_some_iff.mp h
  subst h
  have fin : Q (.bl (!b)) H := q _ F H (Grow.refl s) (.bl _)
  rcases inD_cases s rx ry e with ⟨c, z, rfl, rfl, rfl⟩ | ⟨p, xs, rfl, h1, h2, h3, rfl⟩ | ⟨d1, ds, h1, h2, h3, h4, rfl⟩
  · exact .inl ⟨c, z, rfl, rfl, fin⟩
  · exact .inr (.inl ⟨p, xs, rfl, h1, h2, h3, fin⟩)
  · exact .inr (.inr ⟨d1, ds, h1, h2, h3, h4, fin⟩)

/-! ### chains: a < b <= c -/
def mChain (f g : D → D → Option D) (a b c : M D) : M D := fun ρ => (a ρ).bind fun x => (b ρ).bind fun y => (f x y).bind fun z => match z with
  | .bool true => (c ρ).bind fun w => g y w
  | .bool false => some (.bool false)
  | _ => none
theorem el_chain {r r' : R2} {f g : D → D → Option D} {ta tb tc : TE} {a b c : M D} (ho : OpL T K r f) (ho' : OpL T K r' g) (ha : EL T K ta a) (hb : EL T K tb b) (hc : EL T K tc c) : EL T K (tChain r r' ta tb tc) (mChain f g a b c) := by
  intro F0 H0 σ F H ρ d S h Q q
  unfold mChain at h
  obtain ⟨x, e1, h⟩ := Option.bind_eq_some_iff.mp h
  obtain ⟨y, e2, h⟩ := Option.bind_eq_some_iff.mp h
  obtain ⟨z, e3, h⟩ := Option.bind_eq_some_iff.mp h
  refine ha F0 H0 σ F H ρ x S e1 _ fun v F1 H1 g1 r1 => ?_
  have S1 := S.grow g1
  refine hb F0 H0 σ F1 H1 ρ y S1 e2 _ fun u F2 H2 g2 r2 => ?_
  have S2 := S1.grow g2
  refine ho F2 H2 v u x y z g2.s (r1.mono g2.f) r2 e3 _ fun zz F3 H3 g3 r3 => ?_
  have S3 := S2.grow g3
  split at h
  · cases r3
    refine ⟨true, rfl, ?_⟩
    rw [if_pos rfl]
    obtain ⟨w, e4, h⟩ := Option.bind_eq_some_iff.mp h
    refine hc F0 H0 σ F3 H3 ρ w S3 e4 _ fun ww F4 H4 g4 r4 => ?_
    exact ho' F4 H4 u ww y w d g4.s (r2.mono (g3.trans g4).f) r4 h Q fun vv F5 H5 g5 r5 => q vv F5 H5 ((((g1.trans g2).trans g3).trans g4).trans g5) r5
  · cases r3
    cases h
    refine ⟨false, rfl, ?_⟩
    rw [if_neg Bool.false_ne_true]
    exact q _ F3 H3 ((g1.trans g2).trans g3) (.bl false)
  · cases h
theorem xd_chain {r r' : R2} {f g : D → D → Option D} {op op' : CmpOp} {a b c : Expr} {ma mb mc : M D} {pos : Pos} (hr : ∀ i0, OpR (X i0) (compareOp op) r) (hr' : ∀ i0, OpR (X i0) (compareOp op') r') (ho : OpL T K r f) (ho' : OpL T K r' g) (ha : XD X T K a ma) (hb : XD X T K b mb) (hc : XD X T K c mc)
    (hl : lastMarks [op, op'] [b, c] = false := by rfl) : XD X T K (.Compare a [op, op'] [b, c] pos) (mChain f g ma mb mc) := by
  obtain ⟨t, p, l⟩ := ha
  obtain ⟨t2, p2, l2⟩ := hb
  obtain ⟨t3, p3, l3⟩ := hc
  exact ⟨_, fun i0 => pe_chain (hr i0) (hr' i0) (p i0) (p2 i0) (p3 i0) hl, el_chain ho ho' l l2 l3⟩
theorem xt_chain {r r' : R2} {f g : D → D → Option D} {op op' : CmpOp} {a b c : Expr} {ma mb mc : M D} {pos : Pos} (hr : ∀ i0, OpR (X i0) (compareOp op) r) (hr' : ∀ i0, OpR (X i0) (compareOp op') r') (ho : OpL T K r f) (ho' : OpL T K r' g) (ha : XD X T K a ma) (hb : XD X T K b mb) (hc : XD X T K c mc)
    (hl : lastMarks [op, op'] [b, c] = false := by rfl) : XT X T K (.Compare a [op, op'] [b, c] pos) (mB (mChain f g ma mb mc)) := by
  obtain ⟨t, p, l⟩ := ha
  obtain ⟨t2, p2, l2⟩ := hb
  obtain ⟨t3, p3, l3⟩ := hc
  exact ⟨_, fun i0 => pt_chain (hr i0) (hr' i0) (p i0) (p2 i0) (p3 i0) hl, tl_test (el_chain ho ho' l l2 l3)⟩

/-! ### subscripts, slices -/
def dIx : D → D → Option D
  | .list xs, .int i => atI xs i
  | .tuple xs, .int i => atI xs i
  | .str z, .int i => if z.length ≤ sizeLine then (atI z.cps.toList i).map fun c => .str ⟨#[c]⟩ else none
  | _, _ => none
theorem atI_rp {H : Hp} {vs : List V} {ds : List D} {i : Int} {d : D} (r : RpAll K H vs ds) (h : atI ds i = some d) : ∃ v, atI vs i = some v ∧ Rp K H v d := by
  unfold atI at h ⊢
  rw [r.length]
  obtain ⟨j, e, h⟩ := Option.bind_eq_some_iff.mp h
  obtain ⟨v, e2, r2⟩ := r.got h
  exact ⟨v, by rw [e]; exact e2, r2⟩
theorem ol_ix : OpL T K (rIx K) dIx := by
  intro F H x y dx dy d s rx ry h Q q
  cases ry <;> (first | (cases rx <;> simp only [dIx] at h <;> cases h; done) | skip)
  rename_i i
  cases rx <;> simp only [dIx] at h <;> try (cases h; done)
  · rename_i z
    split at h
    · rename_i hz
      obtain ⟨c, e, h⟩ := Option.map_eq_some_iff.mp h
      subst h
      exact .inr (.inr ⟨z, i, c, rfl, rfl, hz, e, q _ F H (Grow.refl s) (.str _)⟩)
    · cases h
  · rename_i a xs ds hs r
    obtain ⟨v, e, r2⟩ := atI_rp r h
    exact .inl ⟨a, xs, i, v, rfl, rfl, s.same.seq hs, e, q v F H (Grow.refl s) r2⟩
  · rename_i a xs ds hs r
    obtain ⟨v, e, r2⟩ := atI_rp r h
    exact .inr (.inl ⟨a, xs, i, v, rfl, rfl, SqT_same s.same hs, e, q v F H (Grow.refl s) r2⟩)
theorem xd_ix {a b : Expr} {ma mb : M D} {pos : Pos} (ha : XD X T K a ma) (hb : XD X T K b mb) (hp : PlainIx b := by intro _ _; rfl) (k : ∀ i0, (X i0).K = K := by intro _; rfl) : XD X T K (.Subscript a b pos) (m2 dIx ma mb) := by
  obtain ⟨t, p, l⟩ := ha
  obtain ⟨u, p2, l2⟩ := hb
  exact ⟨tOp (rIx K) t u, fun i0 => by have e := k i0; subst e; exact pe_ix ix_seq (p i0) (p2 i0) hp, el_op ol_ix l l2⟩
/-- an end of a slice -/
def OL (T : List (Addr × Str)) (K : PySem.W.Frag) (to : TO) (m : M (Option Int)) : Prop := ∀ (F0 H0 : Hp) (σ : St) (F H : Hp) (ρ : Fr) (o : Option Int), State T K F0 H0 σ F H ρ → m ρ = some o →
  ∀ Q : Option Int → Hp → Prop, (∀ F' H', Grow T F H F' H' → Q o H') → to σ H Q
def XO {ι : Type} (X : ι → Cx) (T : List (Addr × Str)) (K : PySem.W.Frag) (e : Option Expr) (m : M (Option Int)) : Prop := ∃ t, (∀ i, PO (X i) e t) ∧ OL T K t m
def mNo : M (Option Int) := fun _ => some none
def mSo (a : M D) : M (Option Int) := fun ρ => (a ρ).bind fun x => match x with
  | .int i => some (some i)
  | _ => none
theorem xo_none : XO X T K none mNo := ⟨_, fun i0 => po_none, by
  intro F0 H0 σ F H ρ o S h Q q
  cases h
  exact q F H (Grow.refl S.s)⟩
theorem xo_some {e : Expr} {a : M D} (ha : XD X T K e a) : XO X T K (some e) (mSo a) := by
  obtain ⟨t, p, l⟩ := ha
  refine ⟨_, fun i0 => po_some (p i0), ?_⟩
  intro F0 H0 σ F H ρ o S h Q q
  unfold mSo at h
  obtain ⟨x, e1, h⟩ := Option.bind_eq_some_iff.mp h
  refine l F0 H0 σ F H ρ x S e1 _ fun v F1 H1 g1 r1 => ?_
  split at h
  · cases r1
    cases h
    exact ⟨_, rfl, q F1 H1 g1⟩
  · cases h
def cutD (ds : List D) (lo hi : Option Int) : List D := (ds.drop (HT.sIx ds.length 0 lo)).take (HT.sIx ds.length ds.length hi - HT.sIx ds.length 0 lo)
theorem cut_rp {H : Hp} {vs : List V} {ds : List D} (r : RpAll K H vs ds) (lo hi : Option Int) : RpAll K H (cutV vs lo hi) (cutD ds lo hi) := by
  unfold cutV cutD
  rw [r.length]
  exact (r.drop _).take _
def dSl : D → Option Int → Option Int → Option D
  | .list xs, lo, hi => some (.list (cutD xs lo hi))
  | .tuple xs, lo, hi => some (.tuple (cutD xs lo hi))
  | .str z, lo, hi => if z.length ≤ sizeLine then some (.str (cutS z lo hi)) else none
  | _, _, _ => none
def rSl3 (K : PySem.W.Frag) : V → Option Int → Option Int → Hp → VK → Prop := fun x lo hi H Q => rSlL K x lo hi H Q ∨ rSlA K x lo hi H Q ∨ rSlS x lo hi H Q
theorem sl3 {Y : Cx} : SlR Y (rSl3 Y.K) := SlR.or sl_list (SlR.or sl_tupA sl_str)
theorem sl_of {F H : Hp} {x : V} {dx d : D} {lo hi : Option Int} (s : Sub T F H) (rx : Rp K F x dx) (h : dSl dx lo hi = some d) (Q : VK) (q : ∀ v F' H', Grow T F H F' H' → Rp K F' v d → Q v H') : rSl3 K x lo hi H Q := by
  cases rx <;> simp only [dSl] at h <;> try (cases h; done)
  · rename_i z
    split at h
    · rename_i hz
      cases h
      exact .inr (.inr ⟨z, rfl, hz, q _ F H (Grow.refl s) (.str _)⟩)
    · cases h
  · rename_i a xs ds hs r
    cases h
    refine .inl ⟨a, xs, rfl, s.same.seq hs, fun p hp => ?_⟩
    have g := Grow.new (T := T) (o := .lst (cutV xs lo hi)) s hp
    exact q _ _ _ g (.lst (SqL.of upd_same) ((cut_rp r lo hi).mono g.f))
  · rename_i a xs ds hs r
    cases h
    refine .inr (.inl ⟨a, xs, rfl, SqT_same s.same hs, fun e => ?_, fun e p hp => ?_⟩)
    · have e2 : cutD ds lo hi = ds := by
        unfold cutD
        rw [← r.length, e.1, e.2]
        simp [r.length]
      rw [e2] at q
      exact q _ F H (Grow.refl s) (.tup hs r)
    · have g := Grow.new (T := T) (o := .tup (cutV xs lo hi)) s hp
      exact q _ _ _ g (.tup (SqT.of upd_same) ((cut_rp r lo hi).mono g.f))
def mSl (a : M D) (lo hi : M (Option Int)) : M D := fun ρ => (a ρ).bind fun x => (lo ρ).bind fun l => (hi ρ).bind fun u => dSl x l u
theorem xd_slice {e : Expr} {lo hi : Option Expr} {a : M D} {l u : M (Option Int)} {pos p2 : Pos} (ha : XD X T K e a) (hl : XO X T K lo l) (hu : XO X T K hi u) (k : ∀ i0, (X i0).K = K := by intro _; rfl) : XD X T K (.Subscript e (.Slice lo hi none p2) pos) (mSl a l u) := by
  obtain ⟨t, p, l1⟩ := ha
  obtain ⟨t2, p2, l2⟩ := hl
  obtain ⟨t3, p3, l3⟩ := hu
  refine ⟨tSl (rSl3 K) t t2 t3, fun i0 => by have e := k i0; subst e; exact pe_slice sl3 (p i0) (p2 i0) (p3 i0), ?_⟩
  intro F0 H0 σ F H ρ d S h Q q
  unfold mSl at h
  obtain ⟨x, e1, h⟩ := Option.bind_eq_some_iff.mp h
  obtain ⟨lo', e2, h⟩ := Option.bind_eq_some_iff.mp h
  obtain ⟨hi', e3, h⟩ := Option.bind_eq_some_iff.mp h
  refine l1 F0 H0 σ F H ρ x S e1 _ fun v F1 H1 g1 r1 => ?_
  have S1 := S.grow g1
  refine l2 F0 H0 σ F1 H1 ρ lo' S1 e2 _ fun F2 H2 g2 => ?_
  have S2 := S1.grow g2
  refine l3 F0 H0 σ F2 H2 ρ hi' S2 e3 _ fun F3 H3 g3 => ?_
  exact sl_of g3.s (r1.mono (g2.trans g3).f) h Q fun w F4 H4 g4 r4 => q w F4 H4 (((g1.trans g2).trans g3).trans g4) r4

/-! ### displays -/
def dLst (xs : List D) : Option D := if xs.length ≤ sizeLine then some (.list xs) else none
def dTup (xs : List D) : Option D := if xs.length ≤ sizeLine then some (.tuple xs) else none
theorem xd_lst {es : List Expr} {m : M (List D)} {pos : Pos} (ha : XA X T K es m) : XD X T K (.List es pos) (mA dLst m) := by
  obtain ⟨t, p, l⟩ := ha
  refine ⟨_, fun i0 => pe_lst (p i0), ?_⟩
  intro F0 H0 σ F H ρ d S h Q q
  unfold mA at h
  obtain ⟨xs, e1, h⟩ := Option.bind_eq_some_iff.mp h
  refine l F0 H0 σ F H ρ xs S e1 _ fun vs F1 H1 g1 r1 => ?_
  unfold dLst at h
  split at h
  · rename_i hz
    cases h
    refine ⟨by rw [r1.length]; exact hz, fun p hp => ?_⟩
    have g := Grow.new (T := T) (o := .lst vs) g1.s hp
    exact q _ _ _ (g1.trans g) (.lst (SqL.of upd_same) (r1.mono g.f))
  · cases h
theorem xd_tup {es : List Expr} {m : M (List D)} {k : Nat} {pos : Pos} (ha : XA X T K es m) : XD X T K (.Tuple es k pos) (mA dTup m) := by
  obtain ⟨t, p, l⟩ := ha
  refine ⟨_, fun i0 => pe_tup (p i0), ?_⟩
  intro F0 H0 σ F H ρ d S h Q q
  unfold mA at h
  obtain ⟨xs, e1, h⟩ := Option.bind_eq_some_iff.mp h
  refine l F0 H0 σ F H ρ xs S e1 _ fun vs F1 H1 g1 r1 => ?_
  unfold dTup at h
  split at h
  · rename_i hz
    cases h
    refine ⟨by rw [r1.length]; exact hz, fun p hp => ?_⟩
    have g := Grow.new (T := T) (o := .tup vs) g1.s hp
    exact q _ _ _ (g1.trans g) (.tup (SqT.of upd_same) (r1.mono g.f))
  · cases h

/-! ### the comparisons, over a family of contexts -/
theorem room65 {k : Nat} {A : Around} (r : Room k A) : A.units + 65 < cLine := by have := r.un; omega
theorem opk_lt : ∀ i0, OpR (X i0) (compareOp .Lt) (rI0 fun i j => .bl (decide (i < j))) := fun _ => op_lt
theorem opk_le : ∀ i0, OpR (X i0) (compareOp .LtE) rLe2 := fun _ => op_le2
theorem opk_gt : ∀ i0, OpR (X i0) (compareOp .Gt) (rI0 fun i j => .bl (decide (j < i))) := fun _ => op_gt
theorem opk_ge : ∀ i0, OpR (X i0) (compareOp .GtE) (rI0 fun i j => .bl (decide (j ≤ i))) := fun _ => op_ge
theorem opk_eq (hu : ∀ i0, (X i0).A.units + 65 < cLine) (k : ∀ i0, (X i0).K = K := by intro _; rfl) : ∀ i0, OpR (X i0) (compareOp .Eq) (rEqD K) := fun i0 => by
  have e := k i0
  subst e
  exact op_eqD (by have := hu i0; omega)
theorem opk_ne (hu : ∀ i0, (X i0).A.units + 65 < cLine) (k : ∀ i0, (X i0).K = K := by intro _; rfl) : ∀ i0, OpR (X i0) (compareOp .NotEq) (rNeD K) := fun i0 => by
  have e := k i0
  subst e
  exact op_neD (by have := hu i0; omega)
theorem opk_isN : ∀ i0, OpR (X i0) (compareOp .Is) (fun x y H Q => y = .non ∧ Q (.bl (decide (x = .non))) H) := fun _ => op_isN
theorem opk_notN : ∀ i0, OpR (X i0) (compareOp .IsNot) (fun x y H Q => y = .non ∧ Q (.bl (!decide (x = .non))) H) := fun _ => op_notN
theorem opk_isB : ∀ i0, OpR (X i0) (compareOp .Is) (fun x y H Q => ∃ a b, x = .bl a ∧ y = .bl b ∧ Q (.bl (decide (a = b))) H) := fun _ => op_is_bl
theorem opk_notB : ∀ i0, OpR (X i0) (compareOp .IsNot) (fun x y H Q => ∃ a b, x = .bl a ∧ y = .bl b ∧ Q (.bl (!decide (a = b))) H) := fun _ => op_isnot_bl
theorem opk_in (hu : ∀ i0, (X i0).A.units + 65 < cLine) (k : ∀ i0, (X i0).K = K := by intro _; rfl) : ∀ i0, OpR (X i0) (compareOp .In) (rIn3 K) := fun i0 => by
  have e := k i0
  subst e
  exact op_in3 (hu i0)
theorem opk_notIn (hu : ∀ i0, (X i0).A.units + 65 < cLine) (k : ∀ i0, (X i0).K = K := by intro _; rfl) : ∀ i0, OpR (X i0) (compareOp .NotIn) (rNotIn3 K) := fun i0 => by
  have e := k i0
  subst e
  exact op_notIn3 (hu i0)
end
end Pd

namespace Pd
open PySem PySem.Spec PyProof.Rows L2
section
variable {ι : Type} {T : List (Addr × Str)} {K : PySem.W.Frag} {X : ι → Cx}
/-! ### calls of built-ins -/
def CL (T : List (Addr × Str)) (K : PySem.W.Frag) (r : List V → Hp → VK → Prop) (f : List D → Option D) : Prop := ∀ (F H : Hp) (vs : List V) (ds : List D) (d : D), Sub T F H → RpAll K F vs ds → f ds = some d →
  ∀ Q : VK, (∀ v F' H', Grow T F H F' H' → Rp K F' v d → Q v H') → r vs H Q
theorem el_cb {r : List V → Hp → VK → Prop} {f : List D → Option D} {ta : TA} {m : M (List D)} (hc : CL T K r f) (ha : AL T K ta m) : EL T K (tCB r ta) (mA f m) := by
  intro F0 H0 σ F H ρ d S h Q q
  unfold mA at h
  obtain ⟨xs, e1, h⟩ := Option.bind_eq_some_iff.mp h
  refine ha F0 H0 σ F H ρ xs S e1 _ fun vs F1 H1 g1 r1 => ?_
  exact hc F1 H1 vs xs d g1.s r1 h Q fun v F2 H2 g2 r2 => q v F2 H2 (g1.trans g2) r2
theorem xd_callB {x : Str} {id : String} {r : List V → Hp → VK → Prop} {f : List D → Option D} {e : Expr} {es : List Expr} {m : M (List D)} {p pos : Pos} (hc : ∀ i0, CallR (X i0) (.builtin id) r) (hf : CL T K r f) (hm : ∀ i0, (X i0).mg x = none) (hv : bootBuiltins x = some (.builtin id)) (ha : XA X T K (e :: es) m)
    (hg : ∀ i0, Gl (X i0) x := by intro _; rfl) (hn : x ≠ "__name__" := by decide) (hdb : (x == ("__debug__" : Str)) = false := by decide) (he : ∀ i0, starEach (e :: es) (X i0).env = (false, eval e (X i0).env) :: starEach es (X i0).env := by intro _; rfl) (hpl : ∀ i0, (backTo pos (starEach es (X i0).env)).any (·.1) = false := by intro _; rfl) :
    XD X T K (.Call (.Name x p) (e :: es) [] pos) (mA f m) := by
  obtain ⟨t, p1, l⟩ := ha
  exact ⟨_, fun i0 => pe_callB (hc i0) (hg i0) (hm i0) hv (p1 i0) hn hdb (he i0) (hpl i0), el_cb hf l⟩
theorem xd_callTy {x : Str} {Ty : String} {r : List V → Hp → VK → Prop} {f : List D → Option D} {e : Expr} {es : List Expr} {m : M (List D)} {p pos : Pos} (hc : ∀ i0, CallR (X i0) (.type Ty) r) (hf : CL T K r f) (hm : ∀ i0, (X i0).mg x = none) (hv : bootBuiltins x = some (.type Ty)) (ha : XA X T K (e :: es) m)
    (hg : ∀ i0, Gl (X i0) x := by intro _; rfl) (hn : x ≠ "__name__" := by decide) (hdb : (x == ("__debug__" : Str)) = false := by decide) (he : ∀ i0, starEach (e :: es) (X i0).env = (false, eval e (X i0).env) :: starEach es (X i0).env := by intro _; rfl) (hpl : ∀ i0, (backTo pos (starEach es (X i0).env)).any (·.1) = false := by intro _; rfl) :
    XD X T K (.Call (.Name x p) (e :: es) [] pos) (mA f m) := by
  obtain ⟨t, p1, l⟩ := ha
  exact ⟨_, fun i0 => pe_callTy (hc i0) (hg i0) (hm i0) hv (p1 i0) hn hdb (he i0) (hpl i0), el_cb hf l⟩
def rLen3 (K : PySem.W.Frag) : List V → Hp → VK → Prop := fun xs H Q => (∃ p ys, xs = [V.ref p] ∧ (SqL K H p ys ∨ SqT K H p ys) ∧ Q (.int ys.length) H) ∨ (∃ z : Str, xs = [V.str z] ∧ z.length ≤ sizeLine ∧ Q (.int z.length) H)
theorem call_len3 {Y : Cx} : CallR Y (.builtin "len") (rLen3 Y.K) := CallR.or call_len_seq call_len_str
def dLen : List D → Option D
  | [.str z] => if z.length ≤ sizeLine then some (.int z.length) else none
  | [.list xs] => some (.int xs.length)
  | [.tuple xs] => some (.int xs.length)
  | _ => none
theorem rp1 {H : Hp} {vs : List V} {d : D} (r : RpAll K H vs [d]) : ∃ v, vs = [v] ∧ Rp K H v d := by
  cases r with
  | cons h r => cases r; exact ⟨_, rfl, h⟩
theorem rp2 {H : Hp} {vs : List V} {d e : D} (r : RpAll K H vs [d, e]) : ∃ v w, vs = [v, w] ∧ Rp K H v d ∧ Rp K H w e := by
  cases r with
  | cons h r =>
    cases r with
    | cons h2 r => cases r; exact ⟨_, _, rfl, h, h2⟩
theorem cl_len : CL T K (rLen3 K) dLen := by
  intro F H vs ds d s r h Q q
  match ds, h with
  | [.str z], h =>
    simp only [dLen] at h
    split at h
    · rename_i hz
      cases h
      obtain ⟨v, rfl, rv⟩ := rp1 r
      cases rv
      exact .inr ⟨z, rfl, hz, q _ F H (Grow.refl s) (.int _)⟩
    · cases h
  | [.list xs], h =>
    cases h
    obtain ⟨v, rfl, rv⟩ := rp1 r
    cases rv with
    | lst hs ra =>
      rw [← ra.length] at q
      exact .inl ⟨_, _, rfl, .inl (s.same.seq hs), q _ F H (Grow.refl s) (.int _)⟩
  | [.tuple xs], h =>
    cases h
    obtain ⟨v, rfl, rv⟩ := rp1 r
    cases rv with
    | tup hs ra =>
      rw [← ra.length] at q
      exact .inl ⟨_, _, rfl, .inr (SqT_same s.same hs), q _ F H (Grow.refl s) (.int _)⟩
/-- a list of truths -/
def asBools : List D → Option (List Bool)
  | [] => some []
  | .bool b :: r => (asBools r).map (b :: ·)
  | _ :: _ => none
theorem asBools_rp {H : Hp} : ∀ {vs : List V} {ds : List D} {bs : List Bool}, RpAll K H vs ds → asBools ds = some bs → vs = bs.map V.bl ∧ ds = bs.map PyData.bool
  | _, _, _, .nil, h => by cases h; exact ⟨rfl, rfl⟩
  | _, _, _, .cons hv r, h => by
    cases hv <;> simp only [asBools] at h <;> try (cases h; done)
    obtain ⟨ms, e, h⟩ := Option.map_eq_some_iff.mp h
    subst h
    obtain ⟨e1, e2⟩ := asBools_rp r e
    subst e1 e2
    exact ⟨rfl, rfl⟩
theorem asBools_map : ∀ bs : List Bool, asBools (bs.map PyData.bool) = some bs
  | [] => rfl
  | b :: bs => by
    show (asBools (bs.map PyData.bool)).map (b :: ·) = _
    rw [asBools_map bs]; rfl
def dAll : List D → Option D
  | [.list xs] => (asBools xs).map fun bs => .bool (bs.all id)
  | _ => none
def dAny : List D → Option D
  | [.list xs] => (asBools xs).map fun bs => .bool (bs.any id)
  | _ => none
theorem cl_all : CL T K (rAll K) dAll := by
  intro F H vs ds d s r h Q q
  match ds, h with
  | [.list xs], h =>
    obtain ⟨bs, e, h⟩ := Option.map_eq_some_iff.mp h
    subst h
    obtain ⟨v, rfl, rv⟩ := rp1 r
    cases rv with
    | lst hs ra =>
      obtain ⟨e1, _⟩ := asBools_rp ra e
      subst e1
      exact ⟨_, bs, rfl, s.same.seq hs, q _ F H (Grow.refl s) (.bl _)⟩
theorem cl_any : CL T K (rAny K) dAny := by
  intro F H vs ds d s r h Q q
  match ds, h with
  | [.list xs], h =>
    obtain ⟨bs, e, h⟩ := Option.map_eq_some_iff.mp h
    subst h
    obtain ⟨v, rfl, rv⟩ := rp1 r
    cases rv with
    | lst hs ra =>
      obtain ⟨e1, _⟩ := asBools_rp ra e
      subst e1
      exact ⟨_, bs, rfl, s.same.seq hs, q _ F H (Grow.refl s) (.bl _)⟩
def dAbs : List D → Option D
  | [.int i] => some (.int (if i < 0 then -i else i))
  | _ => none
theorem cl_abs : CL T K (fun xs H Q => ∃ i, xs = [V.int i] ∧ Q (.int (if i < 0 then -i else i)) H) dAbs := by
  intro F H vs ds d s r h Q q
  match ds, h with
  | [.int i], h =>
    cases h
    obtain ⟨v, rfl, rv⟩ := rp1 r
    cases rv
    exact ⟨i, rfl, q _ F H (Grow.refl s) (.int _)⟩
def dMax2 : List D → Option D
  | [.int i, .int j] => some (.int (if j > i then j else i))
  | _ => none
def dMin2 : List D → Option D
  | [.int i, .int j] => some (.int (if j < i then j else i))
  | _ => none
theorem cl_max2 : CL T K (fun xs H Q => ∃ i j, xs = [V.int i, V.int j] ∧ Q (.int (if j > i then j else i)) H) dMax2 := by
  intro F H vs ds d s r h Q q
  match ds, h with
  | [.int i, .int j], h =>
    cases h
    obtain ⟨v, w, rfl, rv, rw⟩ := rp2 r
    cases rv
    cases rw
    exact ⟨i, j, rfl, q _ F H (Grow.refl s) (.int _)⟩
theorem cl_min2 : CL T K (fun xs H Q => ∃ i j, xs = [V.int i, V.int j] ∧ Q (.int (if j < i then j else i)) H) dMin2 := by
  intro F H vs ds d s r h Q q
  match ds, h with
  | [.int i, .int j], h =>
    cases h
    obtain ⟨v, w, rfl, rv, rw⟩ := rp2 r
    cases rv
    cases rw
    exact ⟨i, j, rfl, q _ F H (Grow.refl s) (.int _)⟩
def dInt : List D → Option D
  | [.int i] => some (.int i)
  | [.bool b] => some (.int (if b = true then 1 else 0))
  | _ => none
theorem cl_int : CL T K (fun xs H Q => (∃ i, xs = [V.int i] ∧ Q (.int i) H) ∨ ∃ k, xs = [V.bl k] ∧ Q (.int (if k = true then 1 else 0)) H) dInt := by
  intro F H vs ds d s r h Q q
  match ds, h with
  | [.int i], h =>
    cases h
    obtain ⟨v, rfl, rv⟩ := rp1 r
    cases rv
    exact .inl ⟨i, rfl, q _ F H (Grow.refl s) (.int _)⟩
  | [.bool b], h =>
    cases h
    obtain ⟨v, rfl, rv⟩ := rp1 r
    cases rv
    exact .inr ⟨b, rfl, q _ F H (Grow.refl s) (.int _)⟩
def dStr : List D → Option D
  | [.int i] => if i.natAbs.log2 < 1920 then some (.str (Str.ofString (toString i))) else none
  | _ => none
theorem cl_str : CL T K (fun xs H Q => ∃ i : Int, xs = [V.int i] ∧ i.natAbs.log2 < 1920 ∧ Q (.str (Str.ofString (toString i))) H) dStr := by
  intro F H vs ds d s r h Q q
  match ds, h with
  | [.int i], h =>
    simp only [dStr] at h
    split at h
    · rename_i hz
      cases h
      obtain ⟨v, rfl, rv⟩ := rp1 r
      cases rv
      exact ⟨i, rfl, hz, q _ F H (Grow.refl s) (.str _)⟩
    · cases h
def dListOf : List D → Option D
  | [.list xs] => some (.list xs)
  | [.tuple xs] => some (.list xs)
  | _ => none
theorem cl_list : CL T K (fun xs H Q => ∃ p ys, xs = [V.ref p] ∧ (SqL K H p ys ∨ SqT K H p ys) ∧ ∀ l, H l = none → Q (.ref l) (upd H l (.lst ys))) dListOf := by
  intro F H vs ds d s r h Q q
  match ds, h with
  | [.list xs], h =>
    cases h
    obtain ⟨v, rfl, rv⟩ := rp1 r
    cases rv with
    | lst hs ra =>
      refine ⟨_, _, rfl, .inl (s.same.seq hs), fun p hp => ?_⟩
      exact q _ _ _ (Grow.new s hp) (.lst (SqL.of upd_same) (ra.mono (Grow.new (T := T) s hp).f))
  | [.tuple xs], h =>
    cases h
    obtain ⟨v, rfl, rv⟩ := rp1 r
    cases rv with
    | tup hs ra =>
      refine ⟨_, _, rfl, .inr (SqT_same s.same hs), fun p hp => ?_⟩
      exact q _ _ _ (Grow.new s hp) (.lst (SqL.of upd_same) (ra.mono (Grow.new (T := T) s hp).f))
def dTupleOf : List D → Option D
  | [.list xs] => some (.tuple xs)
  | [.tuple xs] => some (.tuple xs)
  | _ => none
theorem cl_tuple : CL T K (fun xs H Q => ∃ p ys, xs = [V.ref p] ∧ ((SqL K H p ys ∧ ∀ l, H l = none → Q (.ref l) (upd H l (.tup ys))) ∨ SqT K H p ys ∧ Q (.ref p) H)) dTupleOf := by
  intro F H vs ds d s r h Q q
  match ds, h with
  | [.list xs], h =>
    cases h
    obtain ⟨v, rfl, rv⟩ := rp1 r
    cases rv with
    | lst hs ra =>
      refine ⟨_, _, rfl, .inl ⟨s.same.seq hs, fun p hp => ?_⟩⟩
      exact q _ _ _ (Grow.new s hp) (.tup (SqT.of upd_same) (ra.mono (Grow.new (T := T) s hp).f))
  | [.tuple xs], h =>
    cases h
    obtain ⟨v, rfl, rv⟩ := rp1 r
    cases rv with
    | tup hs ra => exact ⟨_, _, rfl, .inr ⟨SqT_same s.same hs, q _ F H (Grow.refl s) (.tup hs ra)⟩⟩
/-! ### isinstance -/
def tyD : D → String
  | .none => "NoneType"
  | .bool _ => "bool"
  | .int _ => "int"
  | .str _ => "str"
  | .list _ => "list"
  | .tuple _ => "tuple"
  | .dict _ => "dict"
theorem tyx {H : Hp} {v : V} {d : D} (r : Rp K H v d) : TyX K H v (.type (tyD d)) := by
  cases r with
  | non => exact .base .non
  | bl b => exact .base (.bl b)
  | int i => exact .base (.int i)
  | str x => exact .base (.str x)
  | lst hs _ =>
    rcases hs with (h | ⟨o, h⟩) | ⟨o, its, n, h1, h2, _⟩
    · exact .base (.lst h)
    · exact .base (.frz h)
    · exact .kList h1 h2
  | tup hs _ =>
    rcases hs with (h | ⟨o, h⟩) | ⟨o, its, n, h1, h2, _⟩
    · exact .base (.tup h)
    · exact .fTuple h
    · exact .kTuple h1 h2
  | dct h _ => exact .base (.dK h)
def dIsi (Ty : String) (d : D) : Option D := (kitB (tyD d) Ty).map .bool
theorem xd_isi {e : Expr} {a : M D} {Ty : String} {x : Str} {p p2 pos : Pos} (ha : XD X T K e a) (hm : ∀ i0, (X i0).mg "isinstance" = none) (hmT : ∀ i0, (X i0).mg x = none) (hv : bootBuiltins x = some (.type Ty)) (hn : x ≠ "__name__" := by decide) (hd : (x == ("__debug__" : Str)) = false := by decide)
    (hg : ∀ i0, Gl (X i0) "isinstance" := by intro _; rfl) (hgT : ∀ i0, Gl (X i0) x := by intro _; rfl)
    (h2 : ∀ i0, starEach [.Name x p2] (X i0).env = (false, eval (.Name x p2) (X i0).env) :: starEach [] (X i0).env := by intro _; rfl) (he : ∀ i0, starEach (e :: [.Name x p2]) (X i0).env = (false, eval e (X i0).env) :: starEach [.Name x p2] (X i0).env := by intro _; rfl) (hpl : ∀ i0, (backTo pos (starEach [.Name x p2] (X i0).env)).any (·.1) = false := by intro _; rfl) (k : ∀ i0, (X i0).K = K := by intro _; rfl) :
    XD X T K (.Call (.Name "isinstance" p) [e, .Name x p2] [] pos) (m1 (dIsi Ty) a) := by
  obtain ⟨t, p1, l⟩ := ha
  refine ⟨tCB (rIsi K) (tCons t (tCons (tC (.ty Ty)) tNil)), fun i0 => by have e := k i0; subst e; exact pe_callB call_isi (hg i0) (hm i0) (by decide +kernel) (pa_cons (p1 i0) (pa_cons (pe_bltn (v := .ty Ty) (hgT i0) (hmT i0) hv rfl hn hd) pa_nil (h2 i0)) (he i0)) (by decide) (by decide) (he i0) (hpl i0), ?_⟩
  intro F0 H0 σ F H ρ d S h Q q
  unfold m1 at h
  obtain ⟨y, e1, h⟩ := Option.bind_eq_some_iff.mp h
  unfold dIsi at h
  obtain ⟨b, e2, h⟩ := Option.map_eq_some_iff.mp h
  subst h
  refine l F0 H0 σ F H ρ y S e1 _ fun v F1 H1 g1 r1 => ?_
  exact ⟨v, .ty Ty, _, _, b, rfl, .ty Ty, tyx (r1.mono g1.s.same), kit_ty e2, q _ F1 H1 g1 (.bl b)⟩
/-! ### calls of own defs -/
/-- a def that makes data of data, and changes nothing that stands -/
def spD (T : List (Addr × Str)) (K : PySem.W.Frag) (g : List D → Option D) : Sp := fun vs H Q _ => ∃ (F : Hp) (ds : List D) (d : D), Sub T F H ∧ RpAll K F vs ds ∧ g ds = some d ∧ ∀ v F' H', Grow T F H F' H' → Rp K F' v d → Q v H'
theorem xd_call {j : Nat} {f : Addr} {fd : FuncData} {ps : List Str} {g : List D → Option D} {x : Str} {e : Expr} {es : List Expr} {m : M (List D)} {p pos : Pos} (G : ∀ i0, FnOk (X i0).prog (X i0).w K (X i0).mg (X i0).base CX0 j f fd ps (spD T K g)) (hr : ∀ i0, Room j (X i0).A) (hm : ∀ i0, (X i0).mg x = some (.ref f)) (hk : PySem.W.keepIn K (.ref f) = true) (hb : Binds K fd ps [])
    (ha : XA X T K (e :: es) m) (hg : ∀ i0, Gl (X i0) x := by intro _; rfl) (hdb : (x == ("__debug__" : Str)) = false := by decide) (he : ∀ i0, starEach (e :: es) (X i0).env = (false, eval e (X i0).env) :: starEach es (X i0).env := by intro _; rfl) (hpl : ∀ i0, (backTo pos (starEach es (X i0).env)).any (·.1) = false := by intro _; rfl) (k : ∀ i0, (X i0).K = K := by intro _; rfl) :
    XD X T K (.Call (.Name x p) (e :: es) [] pos) (mA g m) := by
  obtain ⟨t, p1, l⟩ := ha
  refine ⟨tCall (spD T K g) [] E0 t, fun i0 => by have e := k i0; subst e; exact pe_call (G i0) (hr i0) (hg i0) (hm i0) hk hb .nil pass0 (p1 i0) hdb (he i0) (hpl i0), ?_⟩
  intro F0 H0 σ F H ρ d S h Q q
  unfold mA at h
  obtain ⟨xs, e1, h⟩ := Option.bind_eq_some_iff.mp h
  refine l F0 H0 σ F H ρ xs S e1 _ fun vs F1 H1 g1 r1 => ?_
  exact ⟨F1, xs, d, g1.s, by rw [List.append_nil]; exact r1, h, fun v F2 H2 g2 r2 => q v F2 H2 (g1.trans g2) r2⟩
theorem xd_call0 {j : Nat} {f : Addr} {fd : FuncData} {ps : List Str} {g : List D → Option D} {x : Str} {p pos : Pos} (G : ∀ i0, FnOk (X i0).prog (X i0).w K (X i0).mg (X i0).base CX0 j f fd ps (spD T K g)) (hr : ∀ i0, Room j (X i0).A) (hm : ∀ i0, (X i0).mg x = some (.ref f)) (hk : PySem.W.keepIn K (.ref f) = true) (hb : Binds K fd ps [])
    (hg : ∀ i0, Gl (X i0) x := by intro _; rfl) (hdb : (x == ("__debug__" : Str)) = false := by decide) (k : ∀ i0, (X i0).K = K := by intro _; rfl) : XD X T K (.Call (.Name x p) [] [] pos) (mA g mNil) := by
  refine ⟨tCall (spD T K g) [] E0 tNil, fun i0 => by have e := k i0; subst e; exact pe_call0 (G i0) (hr i0) (hg i0) (hm i0) hk hb .nil pass0 hdb, ?_⟩
  intro F0 H0 σ F H ρ d S h Q q
  exact ⟨F, [], d, S.s, .nil, h, fun v F2 H2 g2 r2 => q v F2 H2 g2 r2⟩
/-! ### methods of texts -/
def asStrs : List D → Option (List Str)
  | [] => some []
  | .str x :: r => (asStrs r).map (x :: ·)
  | _ :: _ => none
theorem asStrs_rp {H : Hp} : ∀ {vs : List V} {ds : List D} {xs : List Str}, RpAll K H vs ds → asStrs ds = some xs → vs = xs.map V.str ∧ ds = xs.map PyData.str
  | _, _, _, .nil, h => by cases h; exact ⟨rfl, rfl⟩
  | _, _, _, .cons hv r, h => by
    cases hv <;> simp only [asStrs] at h <;> try (cases h; done)
    obtain ⟨ms, e, h⟩ := Option.map_eq_some_iff.mp h
    subst h
    obtain ⟨e1, e2⟩ := asStrs_rp r e
    subst e1 e2
    exact ⟨rfl, rfl⟩
theorem asStrs_map : ∀ xs : List Str, asStrs (xs.map PyData.str) = some xs
  | [] => rfl
  | b :: bs => by
    show (asStrs (bs.map PyData.str)).map (b :: ·) = _
    rw [asStrs_map bs]; rfl
def dJoin : D → D → Option D
  | .str a, .list xs => (asStrs xs).bind fun ys => if (ys.map (·.length)).sum + ys.length * a.length ≤ 16777216 then some (.str (Txt.join a ys)) else none
  | _, _ => none
theorem xd_join {o e : Expr} {a b : M D} {apos pos : Pos} (ho : XD X T K o a) (he : XD X T K e b) (hs : ∀ i0, starEach [e] (X i0).env = [(false, eval e (X i0).env)] := by intro _; rfl) (hab : ∀ i0, attributeBase o (Str.ofString "join") (X i0).env (eval o (X i0).env) = eval o (X i0).env := by intro _; rfl) (hl : (apos.endLine == pos.line) = true := by rfl) (k : ∀ i0, (X i0).K = K := by intro _; rfl) :
    XD X T K (.Call (.Attribute o (Str.ofString "join") apos) [e] [] pos) (m2 dJoin a b) := by
  obtain ⟨t, p, l⟩ := ho
  obtain ⟨u, p2, l2⟩ := he
  refine ⟨tM1 (fun x xs H Q => ∃ a p, ∃ ys : List Str, x = .str a ∧ xs = [.ref p] ∧ (SqL K H p (ys.map V.str) ∨ SqT K H p (ys.map V.str)) ∧ (ys.map (·.length)).sum + ys.length * a.length ≤ 16777216 ∧ Q (.str (Txt.join a ys)) H) t u, fun i0 => by have e := k i0; subst e; exact pe_join (p i0) (p2 i0) (hs i0) (hab i0) hl, ?_⟩
  intro F0 H0 σ F H ρ d S h Q q
  unfold m2 at h
  obtain ⟨x, e1, h⟩ := Option.bind_eq_some_iff.mp h
  obtain ⟨y, e2, h⟩ := Option.bind_eq_some_iff.mp h
  refine l F0 H0 σ F H ρ x S e1 _ fun v F1 H1 g1 r1 => ?_
  have S1 := S.grow g1
  match x, y, h with
  | .str z, .list xs, h =>
    cases r1
    refine ⟨⟨z, rfl⟩, ?_⟩
    refine l2 F0 H0 σ F1 H1 ρ _ S1 e2 _ fun w F2 H2 g2 r2 => ?_
    simp only [dJoin] at h
    obtain ⟨ys, e3, h⟩ := Option.bind_eq_some_iff.mp h
    split at h
    · rename_i hz
      cases h
      cases r2 with
      | lst hs ra =>
        obtain ⟨e4, _⟩ := asStrs_rp ra e3
        subst e4
        exact ⟨z, _, ys, rfl, rfl, .inl (g2.s.same.seq hs), hz, q _ F2 H2 (g1.trans g2) (.str _)⟩
    · cases h
def dUpper : D → Option D
  | .str a => if a.length ≤ 5592405 then some (.str (Txt.upper a)) else none
  | _ => none
theorem xd_upper {o : Expr} {a : M D} {apos pos : Pos} (ho : XD X T K o a) (hab : ∀ i0, attributeBase o (Str.ofString "upper") (X i0).env (eval o (X i0).env) = eval o (X i0).env := by intro _; rfl) (hl : (apos.endLine == pos.line) = true := by rfl) : XD X T K (.Call (.Attribute o (Str.ofString "upper") apos) [] [] pos) (m1 dUpper a) := by
  obtain ⟨t, p, l⟩ := ho
  refine ⟨_, fun i0 => pe_upper (p i0) (hab i0) hl, ?_⟩
  intro F0 H0 σ F H ρ d S h Q q
  unfold m1 at h
  obtain ⟨x, e1, h⟩ := Option.bind_eq_some_iff.mp h
  refine l F0 H0 σ F H ρ x S e1 _ fun v F1 H1 g1 r1 => ?_
  match x, h with
  | .str z, h =>
    cases r1
    simp only [dUpper] at h
    split at h
    · rename_i hz
      cases h
      exact ⟨⟨z, rfl⟩, z, rfl, rfl, hz, q _ F1 H1 g1 (.str _)⟩
    · cases h
end
end Pd

namespace Pd
open PySem PySem.Spec PyProof.Rows L2
section
variable {ι : Type} {T : List (Addr × Str)} {K : PySem.W.Frag} {X : ι → Cx}
/-! ### expressions that give a new list of one's own hand -/
def FL (T : List (Addr × Str)) (K : PySem.W.Frag) (te : TE) (m : M (List D)) : Prop := ∀ (F0 H0 : Hp) (σ : St) (F H : Hp) (ρ : Fr) (ds : List D), State T K F0 H0 σ F H ρ → m ρ = some ds →
  ∀ Q : VK, (∀ a vs F' H', Grow T F H F' H' → H' a = some (.lst vs) → F' a = Option.none → Fre (H a) → RpAll K F' vs ds → Q (.ref a) H') → te σ H Q
def XF {ι : Type} (X : ι → Cx) (T : List (Addr × Str)) (K : PySem.W.Frag) (e : Expr) (m : M (List D)) : Prop := ∃ t, (∀ i, PE (X i) e t) ∧ FL T K t m
def mL (m : M (List D)) : M D := fun ρ => (m ρ).map .list
theorem keep_new {F H F' H' : Hp} {a : Addr} {o : HO} (g : Grow T F H F' H') (ha : H' a = some o) (hf : F' a = Option.none) (hn : Fre (H a)) (no : noT o := by intro _ z; cases z) : Grow T F H (upd F' a o) H' where
  f := g.f.trans (upd_same_of hf)
  h := g.h
  s := ⟨fun b u e => by
    by_cases hb : b = a
    · subst hb; rw [upd_same] at e; cases e; exact ha
    · rw [upd_ne hb] at e; exact g.s.same _ _ e, fun b ps e => by
    by_cases hb : b = a
    · subst hb; rw [upd_same] at e; exact no ps (Option.some.inj e)
    · rw [upd_ne hb] at e; exact g.s.nt b ps e, g.s.tabs⟩
  n := fun b u e n => by
    by_cases hb : b = a
    · subst hb; exact hn
    · rw [upd_ne hb] at e; exact g.n _ _ e n
theorem FL.el {te : TE} {m : M (List D)} (h : FL T K te m) : EL T K te (mL m) := by
  intro F0 H0 σ F H ρ d S hd Q q
  unfold mL at hd
  obtain ⟨ds, e, hd⟩ := Option.map_eq_some_iff.mp hd
  subst hd
  refine h F0 H0 σ F H ρ ds S e _ fun a vs F' H' g ha hf hn r => ?_
  have s2 : Same F' (upd F' a (.lst vs)) := fun b u e => by rw [upd_ne (ne_of_none e hf)]; exact e
  exact q (.ref a) _ H' (keep_new g ha hf hn) (.lst (SqL.of upd_same) (r.mono s2))
theorem XF.xd {e : Expr} {m : M (List D)} (h : XF X T K e m) : XD X T K e (mL m) := by
  obtain ⟨t, p, l⟩ := h
  exact ⟨t, p, l.el⟩
theorem xf_lst {es : List Expr} {m : M (List D)} {pos : Pos} (ha : XA X T K es m) : XF X T K (.List es pos) (fun ρ => (m ρ).bind fun xs => if xs.length ≤ sizeLine then some xs else none) := by
  obtain ⟨t, p, l⟩ := ha
  refine ⟨_, fun i0 => pe_lst (p i0), ?_⟩
  intro F0 H0 σ F H ρ d S h Q q
  obtain ⟨xs, e1, h⟩ := Option.bind_eq_some_iff.mp h
  refine l F0 H0 σ F H ρ xs S e1 _ fun vs F1 H1 g1 r1 => ?_
  split at h
  · rename_i hz
    cases h
    refine ⟨by rw [r1.length]; exact hz, fun p hp => ?_⟩
    have g2 : Grow T F1 H1 F1 (upd H1 p (.lst vs)) := Grow.mine g1.s hp
    exact q p vs F1 _ (g1.trans g2) upd_same (g1.s.same.free hp) (g1.h.free (.inl hp)) r1
  · cases h
/-- list(x) -/
theorem xf_list {x : Str} {e : Expr} {a : M D} {p pos : Pos} (ha : XD X T K e a) (hm : ∀ i0, (X i0).mg "list" = none) (hg : ∀ i0, Gl (X i0) "list" := by intro _; rfl) (hs : ∀ i0, starEach [e] (X i0).env = (false, eval e (X i0).env) :: starEach [] (X i0).env := by intro _; rfl) (hpl : ∀ i0, (backTo pos (starEach [] (X i0).env)).any (·.1) = false := by intro _; rfl) (k : ∀ i0, (X i0).K = K := by intro _; rfl) :
    XF X T K (.Call (.Name "list" p) [e] [] pos) (fun ρ => (a ρ).bind fun x => match x with | .list xs => some xs | .tuple xs => some xs | _ => none) := by
  obtain ⟨t, p1, l⟩ := ha
  refine ⟨tCB (fun xs H Q => ∃ p ys, xs = [.ref p] ∧ (SqL K H p ys ∨ SqT K H p ys) ∧ ∀ l, H l = none → Q (.ref l) (upd H l (.lst ys))) (tCons t tNil), fun i0 => by have e := k i0; subst e; exact pe_callTy call_list_of (hg i0) (hm i0) (by decide +kernel) (pa_cons (p1 i0) pa_nil (hs i0)) (by decide) (by decide) (hs i0) (hpl i0), ?_⟩
  intro F0 H0 σ F H ρ d S h Q q
  obtain ⟨y, e1, h⟩ := Option.bind_eq_some_iff.mp h
  refine l F0 H0 σ F H ρ y S e1 _ fun v F1 H1 g1 r1 => ?_
  have fin : ∀ (vs : List V) (p : Addr), H1 p = Option.none → RpAll K F1 vs d → Q (.ref p) (upd H1 p (.lst vs)) := fun vs p hp r => by
    have g2 : Grow T F1 H1 F1 (upd H1 p (.lst vs)) := Grow.mine g1.s hp
    exact q p vs F1 _ (g1.trans g2) upd_same (g1.s.same.free hp) (g1.h.free (.inl hp)) r
  split at h
  · cases h
    cases r1 with
    | lst hs r => exact ⟨_, _, rfl, .inl (g1.s.same.seq hs), fun p hp => fin _ p hp r⟩
  · cases h
    cases r1 with
    | tup hs r => exact ⟨_, _, rfl, .inr (SqT_same g1.s.same hs), fun p hp => fin _ p hp r⟩
  · cases h

/-! ### what is walked -/
structure ItOk (T : List (Addr × Str)) (K : PySem.W.Frag) (J : It) (F : Hp) (xs : List D) : Prop where
  go : ∀ i H, Same F H → i < xs.length → J.go i H
  stop : ∀ i H, Same F H → xs.length ≤ i → J.stop i H
  yld : ∀ i d F1 H1 x H2, Same F F1 → Sub T F1 H1 → xs[i]? = some d → J.yld i H1 x H2 → ∃ F2, Grow T F1 H1 F2 H2 ∧ Rp K F2 x d
def IL (T : List (Addr × Str)) (K : PySem.W.Frag) (wi : TI) (m : M (List D)) : Prop := ∀ (F0 H0 : Hp) (σ : St) (F H : Hp) (ρ : Fr) (xs : List D), State T K F0 H0 σ F H ρ → m ρ = some xs →
  ∀ R : It → Hp → Prop, (∀ J F' H', Grow T F H F' H' → ItOk T K J F' xs → R J H') → wi σ H R
def XI {ι : Type} (X : ι → Cx) (T : List (Addr × Str)) (K : PySem.W.Frag) (tg iter : Expr) (m : M (List D)) : Prop := ∃ wi, (∀ i, PI (X i) tg iter wi) ∧ IL T K wi m
/-- over a list, over a tuple -/
def mItL (a : M D) : M (List D) := fun ρ => (a ρ).bind fun x => match x with | .list xs => some xs | _ => none
def mItT (a : M D) : M (List D) := fun ρ => (a ρ).bind fun x => match x with | .tuple xs => some xs | _ => none
theorem rp_at {H : Hp} {vs : List V} {ds : List D} {i : Nat} {v : V} {d : D} (r : RpAll K H vs ds) (h1 : vs[i]? = some v) (h2 : ds[i]? = some d) : Rp K H v d := by
  obtain ⟨d', e, r'⟩ := r.get h1
  rw [h2] at e; cases e
  exact r'
theorem some_at {α : Type} {xs : List α} {i : Nat} (h : i < xs.length) : ∃ x, xs[i]? = some x := ⟨xs[i], by simp [h]⟩
theorem xi_list {tg e : Expr} {a : M D} (ha : XD X T K e a) (k : ∀ i0, (X i0).K = K := by intro _; rfl) : XI X T K tg e (mItL a) := by
  obtain ⟨t, p, l⟩ := ha
  refine ⟨iList K t, fun i0 => by have e := k i0; subst e; exact pi_list (p i0), ?_⟩
  intro F0 H0 σ F H ρ xs S h R q
  unfold mItL at h
  obtain ⟨y, e1, h⟩ := Option.bind_eq_some_iff.mp h
  refine l F0 H0 σ F H ρ y S e1 _ fun v F1 H1 g1 r1 => ?_
  split at h
  · cases h
    cases r1 with
    | lst hs r =>
      rename_i a vs
      refine ⟨a, rfl, ⟨vs, g1.s.same.seq hs⟩, q _ F1 H1 g1 ⟨fun i H' s hi => ?_, fun i H' s hi => ⟨vs, s.seq hs, by rw [r.length]; exact hi⟩, fun i d F2 H2 x H3 s1 s2 hd hy => ?_⟩⟩
      · obtain ⟨x, hx⟩ := some_at (xs := vs) (i := i) (by rw [r.length]; exact hi)
        exact ⟨vs, x, s.seq hs, hx⟩
      · obtain ⟨e, hy⟩ := hy
        subst e
        exact ⟨F2, Grow.refl s2, (rp_at r (hy vs (s2.same.seq (s1.seq hs))) hd).mono s1⟩
  · cases h
theorem xi_tup {tg e : Expr} {a : M D} (ha : XD X T K e a) (k : ∀ i0, (X i0).K = K := by intro _; rfl) : XI X T K tg e (mItT a) := by
  obtain ⟨t, p, l⟩ := ha
  refine ⟨iTup K t, fun i0 => by have e := k i0; subst e; exact pi_tup (p i0), ?_⟩
  intro F0 H0 σ F H ρ xs S h R q
  unfold mItT at h
  obtain ⟨y, e1, h⟩ := Option.bind_eq_some_iff.mp h
  refine l F0 H0 σ F H ρ y S e1 _ fun v F1 H1 g1 r1 => ?_
  split at h
  · cases h
    cases r1 with
    | tup hs r =>
      rename_i a vs
      refine ⟨a, rfl, ⟨vs, SqT_same g1.s.same hs⟩, q _ F1 H1 g1 ⟨fun i H' s hi => ?_, fun i H' s hi => ⟨vs, SqT_same s hs, by rw [r.length]; exact hi⟩, fun i d F2 H2 x H3 s1 s2 hd hy => ?_⟩⟩
      · obtain ⟨x, hx⟩ := some_at (xs := vs) (i := i) (by rw [r.length]; exact hi)
        exact ⟨vs, x, SqT_same s hs, hx⟩
      · obtain ⟨e, hy⟩ := hy
        subst e
        exact ⟨F2, Grow.refl s2, (rp_at r (hy vs (SqT_same s2.same (SqT_same s1 hs))) hd).mono s1⟩
  · cases h
def rngD (lo hi : Int) : List D := (List.range (hi - lo).toNat).map fun (i : Nat) => PyData.int (lo + (i : Int))
theorem rngD_len (lo hi : Int) : (rngD lo hi).length = (hi - lo).toNat := by unfold rngD; simp
theorem rngD_at {lo hi : Int} {i : Nat} {d : D} (h : (rngD lo hi)[i]? = some d) : d = .int (lo + i) := by
  unfold rngD at h
  rw [List.getElem?_map] at h
  cases e : (List.range (hi - lo).toNat)[i]? with
  | none => rw [e] at h; cases h
  | some j =>
    rw [e] at h
    have : j = i := by
      obtain ⟨h1, h2⟩ := List.getElem?_eq_some_iff.mp e
      simpa using h2.symm
    subst this
    cases h; rfl
theorem itr_ok {F : Hp} {lo : Int} {n : Nat} {xs : List D} (hl : xs.length = n) (hx : ∀ (i : Nat) (d : D), xs[i]? = some d → d = PyData.int (lo + ((i : Nat) : Int))) : ItOk T K (Itr lo n) F xs :=
  ⟨fun i H s hi => by show i < n; omega, fun i H s hi => by show n ≤ i; omega, fun i d F1 H1 x H2 s1 s2 hd hy => by
    obtain ⟨e, ey⟩ := hy
    subst e ey
    rw [hx i d hd]
    exact ⟨F1, Grow.refl s2, .int _⟩⟩
def okR (i : Int) : Bool := decide (-(2 ^ 62) ≤ i) && decide (i < 2 ^ 62)
theorem okR_iff {i : Int} : okR i = true ↔ -(2 ^ 62) ≤ i ∧ i < 2 ^ 62 := by unfold okR; rw [Bool.and_eq_true, decide_eq_true_iff, decide_eq_true_iff]
def mRng1 (a : M D) : M (List D) := fun ρ => (a ρ).bind fun x => match x with | .int j => if okR j then some (rngD 0 j) else none | _ => none
def mRng2 (a b : M D) : M (List D) := fun ρ => (a ρ).bind fun x => (b ρ).bind fun y => match x, y with | .int i, .int j => if okR i && okR j then some (rngD i j) else none | _, _ => none
theorem xi_rng1 {tg a : Expr} {ma : M D} {p pos : Pos} (ha : XD X T K a ma) (hm : ∀ i0, (X i0).mg "range" = none) (hg : ∀ i0, Gl (X i0) "range" := by intro _; rfl) (hs : ∀ i0, starEach [a] (X i0).env = [(false, eval a (X i0).env)] := by intro _; rfl) : XI X T K tg (.Call (.Name "range" p) [a] [] pos) (mRng1 ma) := by
  obtain ⟨t, p1, l⟩ := ha
  refine ⟨_, fun i0 => pi_range1 (hg i0) (hm i0) (pa_cons (p1 i0) pa_nil (hs i0)) (hs i0), ?_⟩
  intro F0 H0 σ F H ρ xs S h R q
  unfold mRng1 at h
  obtain ⟨y, e1, h⟩ := Option.bind_eq_some_iff.mp h
  refine l F0 H0 σ F H ρ y S e1 _ fun v F1 H1 g1 r1 => ?_
  split at h
  · rename_i j
    split at h
    · rename_i hz
      rw [okR_iff] at hz
      cases h
      cases r1
      exact ⟨j, rfl, hz.1, hz.2, q _ F1 H1 g1 (itr_ok (by rw [rngD_len]; congr 1; omega) fun i d e => rngD_at e)⟩
    · cases h
  · cases h
theorem xi_rng2 {tg a b : Expr} {ma mb : M D} {p pos : Pos} (ha : XD X T K a ma) (hb : XD X T K b mb) (hm : ∀ i0, (X i0).mg "range" = none) (hg : ∀ i0, Gl (X i0) "range" := by intro _; rfl) (hs : ∀ i0, starEach [a, b] (X i0).env = [(false, eval a (X i0).env), (false, eval b (X i0).env)] := by intro _; rfl) (hs2 : ∀ i0, starEach [b] (X i0).env = [(false, eval b (X i0).env)] := by intro _; rfl) : XI X T K tg (.Call (.Name "range" p) [a, b] [] pos) (mRng2 ma mb) := by
  obtain ⟨t, p1, l⟩ := ha
  obtain ⟨t2, p2, l2⟩ := hb
  refine ⟨_, fun i0 => pi_range2 (hg i0) (hm i0) (pa_cons (p1 i0) (pa_cons (p2 i0) pa_nil (hs2 i0)) (by rw [hs i0, hs2 i0])) (hs i0) (hs2 i0), ?_⟩
  intro F0 H0 σ F H ρ xs S h R q
  unfold mRng2 at h
  obtain ⟨x, e1, h⟩ := Option.bind_eq_some_iff.mp h
  obtain ⟨y, e2, h⟩ := Option.bind_eq_some_iff.mp h
  refine l F0 H0 σ F H ρ x S e1 _ fun v F1 H1 g1 r1 => ?_
  refine l2 F0 H0 σ F1 H1 ρ y (S.grow g1) e2 _ fun u F2 H2 g2 r2 => ?_
  match x, y, r1, r2, h with
  | .int i, .int j, r1, r2, h =>
    simp only at h
    split at h
    · rename_i hz
      rw [Bool.and_eq_true, okR_iff, okR_iff] at hz
      cases h
      cases r1
      cases r2
      exact ⟨i, j, rfl, ⟨hz.1.1, hz.1.2, hz.2.1, hz.2.2⟩, q _ F2 H2 (g1.trans g2) (itr_ok (by rw [rngD_len]) fun i d e => rngD_at e)⟩
    · cases h

/-! ### targets -/
/-- a target: the slots it writes, what it makes of a frame -/
def GL (T : List (Addr × Str)) (K : PySem.W.Frag) (tg : TG) (is : List Nat) (g : D → Fr → Option Fr) : Prop := ∀ (F0 H0 : Hp) (σ : St) (F H : Hp) (ρ : Fr) (v : V) (d : D) (ρ' : Fr), State T K F0 H0 σ F H ρ → Rp K F v d → g d ρ = some ρ' →
  ∀ Q : St → Hp → Prop, (∀ σ', State T K F0 H0 σ' F H ρ' → (∀ vs : List Nat, (∀ i ∈ is, i ∈ vs) → wipe σ' vs = wipe σ vs) → Q σ' H) → tg v σ H Q
def XG {ι : Type} (X : ι → Cx) (T : List (Addr × Str)) (K : PySem.W.Frag) (e : Expr) (is : List Nat) (g : D → Fr → Option Fr) : Prop := ∃ t, (∀ i, PG (X i) e t) ∧ GL T K t is g
theorem State.set {F0 H0 F H : Hp} {σ : St} {ρ : Fr} {i : Nat} {v : V} {d : D} (S : State T K F0 H0 σ F H ρ) (r : Rp K F v d) (hi : i < ρ.length) : State T K F0 H0 (σ.set i (some v)) F H (ρ.set i (.va d)) where
  g := S.g
  ln := by rw [List.length_set, List.length_set]; exact S.ln
  va := fun j e h => by
    by_cases hj : i = j
    · subst hj
      rw [List.getElem?_set_self hi] at h
      cases h
      exact ⟨v, List.getElem?_set_self (by rw [← S.ln]; exact hi), r⟩
    · rw [List.getElem?_set_ne hj] at h ⊢
      exact S.va j e h
  ow := fun j ds h => by
    by_cases hj : i = j
    · subst hj
      rw [List.getElem?_set_self hi] at h
      cases h
    · rw [List.getElem?_set_ne hj] at h ⊢
      exact S.ow j ds h
  dj := fun j k ds es a b h1 h2 h3 h4 => by
    by_cases hj : i = j
    · subst hj
      rw [List.getElem?_set_self hi] at h1
      cases h1
    · by_cases hk : i = k
      · subst hk
        rw [List.getElem?_set_self hi] at h2
        cases h2
      · rw [List.getElem?_set_ne hj] at h1 h3
        rw [List.getElem?_set_ne hk] at h2 h4
        exact S.dj j k ds es a b h1 h2 h3 h4
  raw := fun j a h => by
    by_cases hj : i = j
    · subst hj
      rw [List.getElem?_set_self hi] at h
      cases h
    · rw [List.getElem?_set_ne hj] at h ⊢
      exact S.raw j a h
theorem wipe_set {σ : St} {i : Nat} {o : Option V} : ∀ {vs : List Nat}, i ∈ vs → wipe (σ.set i o) vs = wipe σ vs
  | [], h => by cases h
  | v :: vs, h => by
    unfold wipe
    by_cases hv : i ∈ vs
    · rw [wipe_set hv]
    · have e : i = v := by
        rcases List.mem_cons.mp h with h | h
        · exact h
        · exact absurd h hv
      subst e
      have q : ∀ (l : List Nat), i ∉ l → wipe (σ.set i o) l = (wipe σ l).set i o := by
        intro l
        induction l with
        | nil => intro _; rfl
        | cons w l ih =>
          intro hl
          rw [List.mem_cons, not_or] at hl
          unfold wipe
          rw [ih hl.2, List.set_comm _ _ hl.1]
      rw [q vs hv, List.set_set]
def gSet (i : Nat) : D → Fr → Option Fr := fun d ρ => if i < ρ.length then some (ρ.set i (.va d)) else none
theorem xg_name (i : Nat) {x : Str} {pos : Pos} (hN : ∀ i0, (X i0).N.Nodup) (hi : ∀ i0, (X i0).N[i]? = some x := by intro _; rfl) (hx : ∀ i0, Loc (X i0).env.scope x := by intro _; first | exact Or.inl rfl | exact Or.inr rfl) (hf : ∀ i0, (X i0).fn x = true ∨ (X i0).env.scope.names.lookup x = some .local := by intro _; first | exact .inl rfl | exact .inr rfl) : XG X T K (.Name x pos) [i] (gSet i) := by
  refine ⟨_, fun i0 => pg_name (hN i0) (hi i0) (hx i0) (hf i0), ?_⟩
  intro F0 H0 σ F H ρ v d ρ' S r h Q q
  unfold gSet at h
  split at h
  · rename_i hl
    cases h
    exact q _ (S.set r hl) fun vs hvs => wipe_set (hvs i List.mem_cons_self)
  · cases h
def GsL (T : List (Addr × Str)) (K : PySem.W.Frag) (tg : TGs) (is : List Nat) (g : List D → Fr → Option Fr) : Prop := ∀ (F0 H0 : Hp) (σ : St) (F H : Hp) (ρ : Fr) (vs : List V) (ds : List D) (ρ' : Fr), State T K F0 H0 σ F H ρ → RpAll K F vs ds → g ds ρ = some ρ' →
  ∀ Q : St → Hp → Prop, (∀ σ', State T K F0 H0 σ' F H ρ' → (∀ vs : List Nat, (∀ i ∈ is, i ∈ vs) → wipe σ' vs = wipe σ vs) → Q σ' H) → tg vs σ H Q
def XGs {ι : Type} (X : ι → Cx) (T : List (Addr × Str)) (K : PySem.W.Frag) (es : List Expr) (is : List Nat) (g : List D → Fr → Option Fr) : Prop := ∃ t, (∀ i, PGs (X i) es t) ∧ GsL T K t is g
def gsNil : List D → Fr → Option Fr
  | [], ρ => some ρ
  | _, _ => none
def gsCons (g : D → Fr → Option Fr) (r : List D → Fr → Option Fr) : List D → Fr → Option Fr
  | d :: ds, ρ => (g d ρ).bind (r ds)
  | [], _ => none
theorem xgs_nil : XGs X T K [] [] gsNil := by
  refine ⟨_, fun i0 => pgs_nil, ?_⟩
  intro F0 H0 σ F H ρ vs ds ρ' S r h Q q
  cases r with
  | nil =>
    cases h
    exact ⟨rfl, q σ S fun _ _ => rfl⟩
  | cons _ _ => cases h
end
end Pd

namespace Pd
open PySem PySem.Spec PyProof.Rows L2
/-- what is wished of a state in which a class of that name is raised -/
abbrev WN := Str → L2.St → Hp → Prop
section
variable {ι : Type} {T : List (Addr × Str)} {K : PySem.W.Frag} {W : WN} {X : ι → Cx}
theorem xgs_cons {e : Expr} {es : List Expr} {is js : List Nat} {g : D → Fr → Option Fr} {r : List D → Fr → Option Fr} (h1 : XG X T K e is g) (h2 : XGs X T K es js r)
    (hs : ∀ i0, (assignEach (e :: es) (X i0).env).map (·.2) = assign e (X i0).env :: (assignEach es (X i0).env).map (·.2) := by intro _; rfl) : XGs X T K (e :: es) (is ++ js) (gsCons g r) := by
  obtain ⟨t, p, l⟩ := h1
  obtain ⟨u, p2, l2⟩ := h2
  refine ⟨_, fun i0 => pgs_cons (p i0) (p2 i0) (hs i0), ?_⟩
  intro F0 H0 σ F H ρ vs ds ρ' S r h Q q
  cases r with
  | nil => cases h
  | cons rv rr =>
    obtain ⟨ρ1, e1, h⟩ := Option.bind_eq_some_iff.mp h
    refine ⟨_, _, rfl, ?_⟩
    refine l F0 H0 σ F H ρ _ _ ρ1 S rv e1 _ fun σ1 S1 w1 => ?_
    refine l2 F0 H0 σ1 F H ρ1 _ _ ρ' S1 rr h _ fun σ2 S2 w2 => ?_
    exact q σ2 S2 fun vs hvs => (w2 vs fun i hi => hvs i (List.mem_append_right _ hi)).trans (w1 vs fun i hi => hvs i (List.mem_append_left _ hi))
def gTupD (n : Nat) (g : List D → Fr → Option Fr) : D → Fr → Option Fr := fun d ρ => match d with
  | .tuple xs => if xs.length = n then g xs ρ else none
  | _ => none
theorem xg_tup {es : List Expr} {is : List Nat} {g : List D → Fr → Option Fr} {n kk : Nat} {pos : Pos} (hc : ∀ i0, (X i0).calm = true) (h : XGs X T K es is g) (hn : ∀ i0, (assignEach es (X i0).env).length = n := by intro _; rfl) (hst : ∀ i0, (assignEach es (X i0).env).findIdx? (·.1) = none := by intro _; rfl) (k : ∀ i0, (X i0).K = K := by intro _; rfl) : XG X T K (.Tuple es kk pos) is (gTupD n g) := by
  obtain ⟨t, p, l⟩ := h
  refine ⟨gTup K n t, fun i0 => by have e := k i0; subst e; exact pg_tup (hc i0) (p i0) (hn i0) (hst i0), ?_⟩
  intro F0 H0 σ F H ρ v d ρ' S r h Q q
  unfold gTupD at h
  split at h
  · split at h
    · rename_i hz
      cases r with
      | tup hs ra =>
        refine ⟨_, _, rfl, SqT_same S.s.same hs, by rw [ra.length]; exact hz, ?_⟩
        exact l F0 H0 σ F H ρ _ _ ρ' S ra h Q q
    · cases h
  · cases h

/-! ### comprehensions -/
def wipeF (ρ : Fr) : List Nat → Fr
  | [] => ρ
  | v :: vs => (wipeF ρ vs).set v .no
theorem State.unset {F0 H0 F H : Hp} {σ : St} {ρ : Fr} {i : Nat} {o : Option V} (S : State T K F0 H0 σ F H ρ) : State T K F0 H0 (σ.set i o) F H (ρ.set i .no) where
  g := S.g
  ln := by rw [List.length_set, List.length_set]; exact S.ln
  va := fun j e h => by
    by_cases hj : i = j
    · subst hj
      by_cases hl : i < ρ.length
      · rw [List.getElem?_set_self hl] at h
        cases h
      · rw [List.getElem?_eq_none (by rw [List.length_set]; omega)] at h
        cases h
    · rw [List.getElem?_set_ne hj] at h ⊢
      exact S.va j e h
  ow := fun j ds h => by
    by_cases hj : i = j
    · subst hj
      by_cases hl : i < ρ.length
      · rw [List.getElem?_set_self hl] at h
        cases h
      · rw [List.getElem?_eq_none (by rw [List.length_set]; omega)] at h
        cases h
    · rw [List.getElem?_set_ne hj] at h ⊢
      exact S.ow j ds h
  dj := fun j k ds es a b h1 h2 h3 h4 => by
    by_cases hj : i = j
    · subst hj
      by_cases hl : i < ρ.length
      · rw [List.getElem?_set_self hl] at h1
        cases h1
      · rw [List.getElem?_eq_none (by rw [List.length_set]; omega)] at h1
        cases h1
    · by_cases hk : i = k
      · subst hk
        by_cases hl : i < ρ.length
        · rw [List.getElem?_set_self hl] at h2
          cases h2
        · rw [List.getElem?_eq_none (by rw [List.length_set]; omega)] at h2
          cases h2
      · rw [List.getElem?_set_ne hj] at h1 h3
        rw [List.getElem?_set_ne hk] at h2 h4
        exact S.dj j k ds es a b h1 h2 h3 h4
  raw := fun j a h => by
    by_cases hj : i = j
    · subst hj
      by_cases hl : i < ρ.length
      · rw [List.getElem?_set_self hl] at h
        cases h
      · rw [List.getElem?_eq_none (by rw [List.length_set]; omega)] at h
        cases h
    · rw [List.getElem?_set_ne hj] at h ⊢
      exact S.raw j a h
theorem State.wipe {F0 H0 F H : Hp} {σ : St} {ρ : Fr} (S : State T K F0 H0 σ F H ρ) : ∀ vs : List Nat, State T K F0 H0 (L2.wipe σ vs) F H (wipeF ρ vs)
  | [] => S
  | _ :: vs => (S.wipe vs).unset
/-- the tests of a comprehension's clause -/
def XTs {ι : Type} (X : ι → Cx) (T : List (Addr × Str)) (K : PySem.W.Frag) (ifs : List Expr) (m : M Bool) : Prop := ∃ t, (∀ i, PTs (X i) ifs t) ∧ TL T K t m
def mYes : M Bool := fun _ => some true
theorem xts_nil : XTs X T K [] mYes := ⟨_, fun i0 => pts_nil, by
  intro F0 H0 σ F H ρ b S h Q q
  cases h
  exact q F H (Grow.refl S.s)⟩
theorem xts_one {e : Expr} {m : M Bool} (h : XT X T K e m) : XTs X T K [e] m := by
  obtain ⟨t, p, l⟩ := h
  exact ⟨_, fun i0 => pts_one (p i0), l⟩
def compL (f : D → Option (Option D)) : List D → Option (List D)
  | [] => some []
  | x :: xs => (f x).bind fun o => (compL f xs).bind fun r => some (o.toList ++ r)
def turnD (g : D → Fr → Option Fr) (mt : M Bool) (me : M D) (ρ : Fr) (x : D) : Option (Option D) := (g x ρ).bind fun ρ2 => (mt ρ2).bind fun b => if b = true then (me ρ2).map some else some none
def mLc (mi : M (List D)) (vs : List Nat) (g : D → Fr → Option Fr) (mt : M Bool) (me : M D) : M (List D) := fun ρ => (mi ρ).bind fun xs => if xs.length ≤ sizeLine then compL (turnD g mt me (wipeF ρ vs)) xs else none
theorem compL_snoc {f : D → Option (Option D)} : ∀ {xs : List D} {x : D} {r : List D}, compL f (xs ++ [x]) = some r → ∃ r1 o, compL f xs = some r1 ∧ f x = some o ∧ r = r1 ++ o.toList
  | [], x, r, h => by
    obtain ⟨o, e1, h⟩ := Option.bind_eq_some_iff.mp (show (f x).bind _ = some r from h)
    simp only [compL, Option.bind_some, Option.some.injEq] at h
    subst h
    exact ⟨[], o, rfl, e1, by simp⟩
  | y :: ys, x, r, h => by
    obtain ⟨o, e1, h⟩ := Option.bind_eq_some_iff.mp (show (f y).bind _ = some r from h)
    obtain ⟨r1, e2, h⟩ := Option.bind_eq_some_iff.mp h
    obtain ⟨r2, o2, e3, e4, e5⟩ := compL_snoc e2
    cases h
    subst e5
    exact ⟨o.toList ++ r2, o2, by simp only [compL, e1, e3, Option.bind_some], e4, by simp⟩
theorem compL_take {f : D → Option (Option D)} : ∀ {xs : List D} {r : List D} (n : Nat), compL f xs = some r → ∃ r1, compL f (xs.take n) = some r1
  | _, _, 0, _ => ⟨[], rfl⟩
  | [], _, n + 1, _ => ⟨[], rfl⟩
  | x :: xs, r, n + 1, h => by
    obtain ⟨o, e1, h⟩ := Option.bind_eq_some_iff.mp (show (f x).bind _ = some r from h)
    obtain ⟨r1, e2, h⟩ := Option.bind_eq_some_iff.mp h
    obtain ⟨r2, e3⟩ := compL_take n e2
    exact ⟨o.toList ++ r2, by simp only [List.take_succ_cons, compL, e1, e3, Option.bind_some]⟩
theorem compL_len {f : D → Option (Option D)} : ∀ {xs : List D} {r : List D}, compL f xs = some r → r.length ≤ xs.length
  | [], r, h => by cases h; exact Nat.le_refl _
  | x :: xs, r, h => by
    obtain ⟨o, e1, h⟩ := Option.bind_eq_some_iff.mp (show (f x).bind _ = some r from h)
    obtain ⟨r1, e2, h⟩ := Option.bind_eq_some_iff.mp h
    cases h
    have := compL_len e2
    cases o <;> simp <;> omega
theorem take_snoc {α : Type} : ∀ {l : List α} {i : Nat} {x : α}, l[i]? = some x → l.take (i + 1) = l.take i ++ [x]
  | [], i, x, h => by simp at h
  | a :: l, 0, x, h => by
    have e : a = x := Option.some.inj h
    subst e
    rfl
  | a :: l, i + 1, x, h => by
    have ih := take_snoc (l := l) (i := i) (x := x) h
    show a :: l.take (i + 1) = a :: l.take i ++ [x]
    rw [ih]
    rfl
theorem wipe_wipeX {σ : St} {vs : List Nat} : L2.wipe (L2.wipe σ vs) vs = L2.wipe σ vs := by
  have key : ∀ (l : List Nat) (τ : St), (∀ i ∈ l, ∀ j : Nat, j < τ.length → j = i → τ[j]? = some Option.none) → L2.wipe τ l = τ := by
    intro l
    induction l with
    | nil => intro τ _; rfl
    | cons i l ih =>
      intro τ h
      unfold L2.wipe
      rw [ih τ fun j hj => h j (List.mem_cons_of_mem _ hj)]
      apply List.ext_getElem?
      intro k
      by_cases hk : i = k
      · subst hk
        by_cases hl : i < τ.length
        · rw [List.getElem?_set_self hl, h i List.mem_cons_self i hl rfl]
        · rw [List.getElem?_eq_none (by rw [List.length_set]; omega), List.getElem?_eq_none (by omega)]
      · rw [List.getElem?_set_ne hk]
  refine key vs _ fun i hi j hj e => ?_
  subst e
  cases q : (L2.wipe σ vs)[j]? with
  | none => rw [List.getElem?_eq_none_iff] at q; omega
  | some o =>
    cases o with
    | none => rfl
    | some x => exact absurd hi (wipe_some q).2
theorem fl_lc {wi : TI} {mi : M (List D)} {tg : TG} {is vs : List Nat} {g : D → Fr → Option Fr} {tt : TT} {mt : M Bool} {te : TE} {me : M D} (hi : IL T K wi mi) (hg : GL T K tg is g) (ht : TL T K tt mt) (he : EL T K te me) (hv : ∀ i ∈ is, i ∈ vs) :
    FL T K (tLc wi tg tt te vs) (mLc mi vs g mt me) := by
  intro F0 H0 σ F H ρ ds S h Q q
  unfold mLc at h
  obtain ⟨xs, e1, h⟩ := Option.bind_eq_some_iff.mp h
  split at h
  · rename_i hz
    refine hi F0 H0 σ F H ρ xs S e1 _ fun J F1 H1 g1 J1 => ?_
    intro Dd hD
    refine ⟨fun i m H2 => m = xs.length - i ∧ i ≤ xs.length ∧ ∃ F2 us r, Grow T F1 H1 F2 H2 ∧ H2 Dd = some (.lst us) ∧ F2 Dd = Option.none ∧ compL (turnD g mt me (wipeF ρ vs)) (xs.take i) = some r ∧ RpAll K F2 us r,
      ⟨xs.length, by simp, Nat.zero_le _, F1, [], [], Grow.mine g1.s hD, upd_same, g1.s.same.free hD, rfl, .nil⟩, ?_⟩
    rintro i m H2 ⟨rfl, hil, F2, us, r, g2, hDl, hDf, hc, hr⟩
    by_cases hlt : i < xs.length
    · obtain ⟨d, hd⟩ := some_at hlt
      have ht1 := take_snoc hd
      obtain ⟨rr, hrr⟩ := compL_take (i + 1) h
      rw [ht1] at hrr
      obtain ⟨r1, o, hc1, hfo, hro⟩ := compL_snoc hrr
      rw [hc] at hc1
      cases hc1
      have hul : us.length < sizeLine := by
        have h1 := compL_len hc
        have h2 := hr.length
        rw [List.length_take] at h1
        omega
      refine .inr ⟨J1.go i H2 (g2.f.trans g2.s.same) hlt, fun H3 => ∃ F3 us', Grow T F1 H1 F3 H3 ∧ H3 Dd = some (.lst us') ∧ F3 Dd = Option.none ∧ RpAll K F3 us' rr, ?_, ?_⟩
      · rintro H3 ⟨F3, us', g3, a1, a2, a3⟩
        exact ⟨xs.length - (i + 1), by omega, rfl, hlt, F3, us', rr, g3, a1, a2, by rw [ht1]; exact hrr, a3⟩
      · intro x H3 hy
        obtain ⟨F3, g3, rx⟩ := J1.yld i d F2 H2 x H3 g2.f g2.s hd hy
        have g23 := g2.trans g3
        have S3 : State T K F0 H0 (L2.wipe σ vs) F3 H3 (wipeF ρ vs) := ((S.wipe vs).grow g1).grow g23
        unfold turnD at hfo
        obtain ⟨ρ2, e2, hfo⟩ := Option.bind_eq_some_iff.mp hfo
        obtain ⟨b, e3, hfo⟩ := Option.bind_eq_some_iff.mp hfo
        have dIn : ∀ {F' H' : Hp}, Grow T F3 H3 F' H' → H' Dd = some (.lst us) ∧ F' Dd = Option.none := fun {F' H'} g' => by
          have h3 : H3 Dd = some (.lst us) := g3.h.lst hDl
          have f3 : F3 Dd = Option.none := by
            cases q : F3 Dd with
            | none => rfl
            | some u => have z := g3.n Dd u q hDf; rw [hDl] at z; exact z.lst
          refine ⟨g'.h.lst h3, ?_⟩
          cases q : F' Dd with
          | none => rfl
          | some u => have z := g'.n Dd u q f3; rw [h3] at z; exact z.lst
        refine hg F0 H0 _ F3 H3 _ x d ρ2 S3 rx e2 _ fun σ4 S4 w4 => ?_
        refine ⟨by rw [w4 vs hv]; exact wipe_wipeX, ?_⟩
        refine ht F0 H0 σ4 F3 H3 ρ2 b S4 e3 _ fun F5 H5 g5 => ?_
        cases b with
        | true =>
          rw [if_pos rfl] at hfo ⊢
          obtain ⟨y, e6, e7⟩ := Option.map_eq_some_iff.mp hfo
          subst e7
          refine he F0 H0 σ4 F5 H5 ρ2 y (S4.grow g5) e6 _ fun v F6 H6 g6 r6 => ?_
          obtain ⟨a1, a2⟩ := dIn (g5.trans g6)
          have g16 := (g23.trans g5).trans g6
          have hDn : H1 Dd = Option.none := hD
          refine ⟨us, a1, hul, F6, us ++ [v], ⟨g16.f, g16.h.put (.inl hDn) a1, ⟨fun b u e => by rw [upd_ne (ne_of_none e a2)]; exact g16.s.same _ _ e, g16.s.nt, Tabs_put a1 g16.s.tabs⟩, g16.n⟩, upd_same, a2, ?_⟩
          rw [hro]
          exact ((hr.mono g3.f).mono (g5.f.trans g6.f)).append (.cons r6 .nil)
        | false =>
          rw [if_neg Bool.false_ne_true] at hfo ⊢
          cases hfo
          obtain ⟨a1, a2⟩ := dIn g5
          refine ⟨F5, us, g23.trans g5, a1, a2, ?_⟩
          rw [hro]
          simp only [Option.toList_none, List.append_nil]
          exact (hr.mono g3.f).mono g5.f
    · have e : i = xs.length := by omega
      subst e
      rw [List.take_length, h] at hc
      cases hc
      exact .inl ⟨J1.stop _ H2 (g2.f.trans g2.s.same) (Nat.le_refl _), q Dd us F2 H2 (g1.trans g2) hDl hDf (g1.h.free (.inl hD)) hr⟩
  · cases h
/-- the contexts of a comprehension's block -/
abbrev Blk := Shared × Hp × Addr × List (Str × Addr) × List Addr
abbrev bx {ι : Type} (X : ι → Cx) (scope : Scope) : ι × Blk → Cx := fun p => (X p.1).blk p.2.1 p.2.2.1 scope (compEnvC scope p.2.2.2.2.1 p.2.2.2.1 (X p.1).env) p.2.2.2.2.2
/-- [elt for target in iter if ..] -/
theorem xf_lc {elt tgt iter : Expr} {ifs : List Expr} {scope : Scope} {own : List (Str × Nat)} {pos : Pos} {mi : M (List D)} {is : List Nat} {g : D → Fr → Option Fr} {mt : M Bool} {me : M D} (hN : ∀ i0, (X i0).N.Nodup) (ok : ∀ i0, BlkOk (X i0).N (X i0).env.scope scope own) (hi : XI X T K tgt iter mi)
    (hg : XG (bx X scope) T K tgt is g) (ht : XTs (bx X scope) T K ifs mt) (he : XD (bx X scope) T K elt me)
    (hc : ∀ i0, (X i0).calm = true := by intro _; rfl) (hv : ∀ i ∈ is, i ∈ own.map (·.2) := by decide) (hs : ∀ i0, ∀ x, foldedSetIterable iter (X i0).env x = pure x := by intro _ _; rfl) : XF X T K (.ListComp elt [⟨tgt, iter, ifs, 0⟩] scope pos) (mLc mi (own.map (·.2)) g mt me) := by
  obtain ⟨wi, p1, l1⟩ := hi
  obtain ⟨tg, p2, l2⟩ := hg
  obtain ⟨tt, p3, l3⟩ := ht
  obtain ⟨te, p4, l4⟩ := he
  exact ⟨_, fun i0 => pe_lc (hc i0) (hN i0) (p1 i0) (ok i0) (fun s H C cl fp => p2 (i0, s, H, C, cl, fp)) (fun s H C cl fp => p3 (i0, s, H, C, cl, fp)) (fun s H C cl fp => p4 (i0, s, H, C, cl, fp)) (hs i0), fl_lc l1 l2 l3 l4 hv⟩

/-! ### statements -/
inductive Out where
  | nx (ρ : Fr)
  | rt (d : D)
  | bk (ρ : Fr)
  | ct (ρ : Fr)
  | ex (n : Str) (ρ : Fr)
def Post (T : List (Addr × Str)) (K : PySem.W.Frag) (W : WN) (F0 H0 F1 : Hp) (De : Ends) : Out → Prop
  | .nx ρ => ∀ σ F H, State T K F0 H0 σ F H ρ → Same F1 F → De.nx σ H
  | .rt d => ∀ v F H, Grow T F0 H0 F H → Rp K F v d → De.rt v H
  | .bk ρ => ∀ σ F H, State T K F0 H0 σ F H ρ → Same F1 F → De.bk σ H
  | .ct ρ => ∀ σ F H, State T K F0 H0 σ F H ρ → Same F1 F → De.ct σ H
  | .ex n ρ => ∀ σ F H, State T K F0 H0 σ F H ρ → Same F1 F → W n σ H
theorem Post.grow {F0 H0 F1 F2 : Hp} {De : Ends} {o : Out} (s : Same F1 F2) (h : Post T K W F0 H0 F1 De o) : Post T K W F0 H0 F2 De o := by
  cases o with
  | nx ρ => exact fun σ F H S s2 => h σ F H S (s.trans s2)
  | rt d => exact h
  | bk ρ => exact fun σ F H S s2 => h σ F H S (s.trans s2)
  | ct ρ => exact fun σ F H S s2 => h σ F H S (s.trans s2)
  | ex n ρ => exact fun σ F H S s2 => h σ F H S (s.trans s2)
def SL (T : List (Addr × Str)) (K : PySem.W.Frag) (W : WN) (ts : TS) (m : M Out) : Prop := ∀ (F0 H0 : Hp) (σ : St) (F H : Hp) (ρ : Fr) (o : Out) (De : Ends), State T K F0 H0 σ F H ρ → m ρ = some o → Post T K W F0 H0 F De o → ts De σ H
def XS {ι : Type} (X : ι → Cx) (T : List (Addr × Str)) (K : PySem.W.Frag) (W : WN) (st : Stmt) (m : M Out) : Prop := ∃ t, (∀ i, PS (X i) st t) ∧ SL T K W t m
def XSs {ι : Type} (X : ι → Cx) (T : List (Addr × Str)) (K : PySem.W.Frag) (W : WN) (sts : List Stmt) (m : M Out) : Prop := ∃ t, (∀ i, PSs (X i) sts t) ∧ SL T K W t m
def mNext : M Out := fun ρ => some (.nx ρ)
def mSeq (a b : M Out) : M Out := fun ρ => (a ρ).bind fun o => match o with
  | .nx ρ2 => b ρ2
  | o => some o
theorem xss_nil : XSs X T K W [] mNext := ⟨_, fun _ => pss_nil, by
  intro F0 H0 σ F H ρ o De S h Q
  cases h
  exact Q σ F H S (Same.refl _)⟩
theorem xss_cons {st : Stmt} {sts : List Stmt} {a b : M Out} (h1 : XS X T K W st a) (h2 : XSs X T K W sts b) : XSs X T K W (st :: sts) (mSeq a b) := by
  obtain ⟨t, p, l⟩ := h1
  obtain ⟨u, p2, l2⟩ := h2
  refine ⟨_, fun i => pss_cons (p i) (p2 i), ?_⟩
  intro F0 H0 σ F H ρ o De S h Q
  unfold mSeq at h
  obtain ⟨o1, e1, h⟩ := Option.bind_eq_some_iff.mp h
  refine l F0 H0 σ F H ρ o1 _ S e1 ?_
  cases o1 with
  | nx ρ2 => exact fun σ' F' H' S' s' => l2 F0 H0 σ' F' H' ρ2 o De S' h (Q.grow s')
  | rt d => cases h; exact Q
  | bk ρ2 => cases h; exact Q
  | ct ρ2 => cases h; exact Q
  | ex n ρ2 => cases h; exact Q
theorem xss_one {st : Stmt} {a : M Out} (h1 : XS X T K W st a) : XSs X T K W [st] a := by
  obtain ⟨t, p, l⟩ := h1
  exact ⟨t, fun i => pss_one (p i), l⟩
theorem xs_pass {pos : Pos} : XS X T K W (.Pass pos) mNext := ⟨_, fun _ => ps_pass, by
  intro F0 H0 σ F H ρ o De S h Q
  cases h
  exact Q σ F H S (Same.refl _)⟩
theorem xs_break {pos : Pos} : XS X T K W (.Break pos) (fun ρ => some (.bk ρ)) := ⟨_, fun _ => ps_break, by
  intro F0 H0 σ F H ρ o De S h Q
  cases h
  exact Q σ F H S (Same.refl _)⟩
theorem xs_continue {pos : Pos} : XS X T K W (.Continue pos) (fun ρ => some (.ct ρ)) := ⟨_, fun _ => ps_continue, by
  intro F0 H0 σ F H ρ o De S h Q
  cases h
  exact Q σ F H S (Same.refl _)⟩
def mRet (a : M D) : M Out := fun ρ => (a ρ).map .rt
theorem xs_ret {e : Expr} {a : M D} {pos : Pos} (ha : XD X T K e a) : XS X T K W (.Return (some e) pos) (mRet a) := by
  obtain ⟨t, p, l⟩ := ha
  refine ⟨_, fun i => ps_ret (p i), ?_⟩
  intro F0 H0 σ F H ρ o De S h Q
  obtain ⟨d, e1, h⟩ := Option.map_eq_some_iff.mp h
  subst h
  exact l F0 H0 σ F H ρ d S e1 _ fun v F1 H1 g1 r1 => Q v F1 H1 (S.g.trans g1) r1
theorem xs_retN {pos : Pos} : XS X T K W (.Return none pos) (fun _ => some (.rt .none)) := ⟨_, fun _ => ps_retN, by
  intro F0 H0 σ F H ρ o De S h Q
  cases h
  exact Q .non F H S.g .non⟩
def mIfS (c : M Bool) (a b : M Out) : M Out := fun ρ => (c ρ).bind fun x => if x = true then a ρ else b ρ
theorem xs_if {c : Expr} {a b : List Stmt} {mc : M Bool} {ma mb : M Out} {pos : Pos} (hc : XT X T K c mc) (ha : XSs X T K W a ma) (hb : XSs X T K W b mb) : XS X T K W (.If c a b pos) (mIfS mc ma mb) := by
  obtain ⟨t, p, l⟩ := hc
  obtain ⟨u, p2, l2⟩ := ha
  obtain ⟨w, p3, l3⟩ := hb
  refine ⟨_, fun i => ps_if (p i) (p2 i) (p3 i), ?_⟩
  intro F0 H0 σ F H ρ o De S h Q
  unfold mIfS at h
  obtain ⟨x, e1, h⟩ := Option.bind_eq_some_iff.mp h
  refine l F0 H0 σ F H ρ x S e1 _ fun F1 H1 g1 => ?_
  cases x with
  | true =>
    rw [if_pos rfl] at h ⊢
    exact l2 F0 H0 σ F1 H1 ρ o De (S.grow g1) h (Q.grow g1.f)
  | false =>
    rw [if_neg Bool.false_ne_true] at h ⊢
    exact l3 F0 H0 σ F1 H1 ρ o De (S.grow g1) h (Q.grow g1.f)
/-- x = e, a, b = e -/
def mAsg (a : M D) (g : D → Fr → Option Fr) : M Out := fun ρ => (a ρ).bind fun d => (g d ρ).map .nx
theorem xs_asg {tg e : Expr} {is : List Nat} {a : M D} {g : D → Fr → Option Fr} {pos : Pos} (ha : XD X T K e a) (hg : XG X T K tg is g) (hs : ∀ i0, swapsWithSole [tg] e pos.line (X i0).env = pure false := by intro _; rfl) (hw : ∀ i0, swappedStores [tg] e (X i0).env = pure none := by intro _; rfl) (h1 : ∀ i0, (assignEach [tg] (X i0).env).map (·.2) = [assign tg (X i0).env] := by intro _; rfl) : XS X T K W (.Assign [tg] e pos) (mAsg a g) := by
  obtain ⟨t, p, l⟩ := ha
  obtain ⟨u, p2, l2⟩ := hg
  refine ⟨_, fun i => ps_asg (p i) (p2 i) (hs i) (hw i) (h1 i), ?_⟩
  intro F0 H0 σ F H ρ o De S h Q
  unfold mAsg at h
  obtain ⟨d, e1, h⟩ := Option.bind_eq_some_iff.mp h
  obtain ⟨ρ2, e2, h⟩ := Option.map_eq_some_iff.mp h
  subst h
  refine l F0 H0 σ F H ρ d S e1 _ fun v F1 H1 g1 r1 => ?_
  exact l2 F0 H0 σ F1 H1 ρ v d ρ2 (S.grow g1) r1 e2 _ fun σ2 S2 _ => Q σ2 F1 H1 S2 g1.f
/-- x = [.. for ..] on one line -/
theorem xs_setLc {i : Nat} {y : Str} {py : Pos} {elt tgt iter : Expr} {ifs : List Expr} {scope : Scope} {own : List (Str × Nat)} {pos spos : Pos} {mi : M (List D)} {is : List Nat} {g : D → Fr → Option Fr} {mt : M Bool} {me : M D} (hN : ∀ i0, (X i0).N.Nodup) (ok : ∀ i0, BlkOk (X i0).N (X i0).env.scope scope own) (hi : XI X T K tgt iter mi)
    (hg : XG (bx X scope) T K tgt is g) (ht : XTs (bx X scope) T K ifs mt) (he : XD (bx X scope) T K elt me)
    (hsw : ∀ i0, swapsWith (.ListComp elt [⟨tgt, iter, ifs, 0⟩] scope pos) (some (.Name y py)) spos.line (X i0).env = pure true) (hy : ∀ i0, (X i0).N[i]? = some y := by intro _; rfl) (hyl : ∀ i0, (X i0).env.scope.names.lookup y = some .local := by intro _; rfl)
    (hc : ∀ i0, (X i0).calm = true := by intro _; rfl) (hv : ∀ i ∈ is, i ∈ own.map (·.2) := by decide) (hs : ∀ i0, ∀ x, foldedSetIterable iter (X i0).env x = pure x := by intro _ _; rfl) : XS X T K W (.Assign [.Name y py] (.ListComp elt [⟨tgt, iter, ifs, 0⟩] scope pos) spos) (mAsg (mL (mLc mi (own.map (·.2)) g mt me)) (gSet i)) := by
  obtain ⟨wi, p1, l1⟩ := hi
  obtain ⟨tg, p2, l2⟩ := hg
  obtain ⟨tt, p3, l3⟩ := ht
  obtain ⟨te, p4, l4⟩ := he
  refine ⟨_, fun i0 => ps_setLc (hc i0) (hN i0) (hy i0) (hyl i0) (hsw i0) (p1 i0) (ok i0) (fun s H C cl fp => p2 (i0, s, H, C, cl, fp)) (fun s H C cl fp => p3 (i0, s, H, C, cl, fp)) (fun s H C cl fp => p4 (i0, s, H, C, cl, fp)) (hs i0), ?_⟩
  intro F0 H0 σ F H ρ o De S h Q
  unfold mAsg at h
  obtain ⟨d, e1, h⟩ := Option.bind_eq_some_iff.mp h
  obtain ⟨ρ2, e2, h⟩ := Option.map_eq_some_iff.mp h
  subst h
  refine (fl_lc l1 l2 l3 l4 hv).el F0 H0 σ F H ρ d S e1 _ fun v F1 H1 g1 r1 => ?_
  unfold gSet at e2
  split at e2
  · rename_i hl
    cases e2
    exact Q _ F1 H1 ((S.grow g1).set r1 hl) g1.f
  · cases e2
/-! ### for -/
def forD (g : D → Fr → Option Fr) (b : M Out) : List D → M Out
  | [], ρ => some (.nx ρ)
  | x :: xs, ρ => (g x ρ).bind fun ρ1 => (b ρ1).bind fun o => match o with
    | .nx ρ2 => forD g b xs ρ2
    | .ct ρ2 => forD g b xs ρ2
    | .bk ρ2 => some (.nx ρ2)
    | .rt d => some (.rt d)
    | .ex n ρ2 => some (.ex n ρ2)
def mFor (mi : M (List D)) (g : D → Fr → Option Fr) (b : M Out) : M Out := fun ρ => (mi ρ).bind fun xs => forD g b xs ρ
theorem drop_at {α : Type} {xs : List α} {i : Nat} {x : α} (h : xs[i]? = some x) : xs.drop i = x :: xs.drop (i + 1) := by
  obtain ⟨h1, h2⟩ := List.getElem?_eq_some_iff.mp h
  rw [List.drop_eq_getElem_cons h1, h2]
theorem xs_for {tgt iter : Expr} {body : List Stmt} {mi : M (List D)} {is : List Nat} {g : D → Fr → Option Fr} {mb : M Out} {pos : Pos} (hi : XI X T K tgt iter mi) (hg : XG X T K tgt is g) (hb : XSs X T K W body mb) (hp : ∀ i0, PassesOwn (model (X i0).prog (X i0).w) (X i0).A (X i0).env (X i0).xe)
    (hc : ∀ i0, (X i0).calm = true := by intro _; rfl) (hs : ∀ i0, ∀ x, foldedSetIterable iter (X i0).env x = pure x := by intro _ _; rfl) : XS X T K W (.For tgt iter body [] pos) (mFor mi g mb) := by
  obtain ⟨wi, p1, l1⟩ := hi
  obtain ⟨tg, p2, l2⟩ := hg
  obtain ⟨tb, p3, l3⟩ := hb
  refine ⟨_, fun i0 => ps_for (hp i0) (hc i0) (p1 i0) (p2 i0) (p3 i0) (hs i0), ?_⟩
  intro F0 H0 σ F H ρ o De S h Q
  unfold mFor at h
  obtain ⟨xs, e1, h⟩ := Option.bind_eq_some_iff.mp h
  refine l1 F0 H0 σ F H ρ xs S e1 _ fun J F1 H1 g1 J1 => ?_
  refine ⟨fun i m σ2 H2 => m = xs.length - i ∧ i ≤ xs.length ∧ ∃ F2 ρ2, State T K F0 H0 σ2 F2 H2 ρ2 ∧ Same F1 F2 ∧ forD g mb (xs.drop i) ρ2 = some o, ⟨xs.length, by simp, Nat.zero_le _, F1, ρ, S.grow g1, Same.refl _, h⟩, ?_⟩
  rintro i m σ2 H2 ⟨rfl, hil, F2, ρ2, S2, s2, h2⟩
  by_cases hlt : i < xs.length
  · obtain ⟨d, hd⟩ := some_at hlt
    rw [drop_at hd] at h2
    obtain ⟨ρ3, e2, h2⟩ := Option.bind_eq_some_iff.mp (show (g d ρ2).bind _ = some o from h2)
    obtain ⟨o3, e3, h2⟩ := Option.bind_eq_some_iff.mp h2
    refine .inr ⟨J1.go i H2 (s2.trans S2.s.same) hlt, fun σ3 H3 => ∃ F3 ρ3, State T K F0 H0 σ3 F3 H3 ρ3 ∧ Same F1 F3 ∧ forD g mb (xs.drop (i + 1)) ρ3 = some o, ?_, ?_⟩
    · rintro σ3 H3 ⟨F3, ρ3, a1, a2, a3⟩
      exact ⟨xs.length - (i + 1), by omega, rfl, hlt, F3, ρ3, a1, a2, a3⟩
    · intro x H3 hy
      obtain ⟨F3, g3, rx⟩ := J1.yld i d F2 H2 x H3 s2 S2.s hd hy
      have S3 := S2.grow g3
      refine l2 F0 H0 σ2 F3 H3 ρ2 x d ρ3 S3 rx e2 _ fun σ4 S4 _ => ?_
      refine l3 F0 H0 σ4 F3 H3 ρ3 o3 _ S4 e3 ?_
      have s13 := s2.trans g3.f
      cases o3 with
      | nx ρ5 => exact fun σ5 F5 H5 S5 s5 => ⟨F5, ρ5, S5, s13.trans s5, h2⟩
      | ct ρ5 => exact fun σ5 F5 H5 S5 s5 => ⟨F5, ρ5, S5, s13.trans s5, h2⟩
      | bk ρ5 => cases h2; exact fun σ5 F5 H5 S5 s5 => Q σ5 F5 H5 S5 ((g1.f.trans s13).trans s5)
      | rt d5 => cases h2; exact fun v F5 H5 g5 r5 => Q v F5 H5 g5 r5
      | ex n5 ρ5 => cases h2; exact fun σ5 F5 H5 S5 s5 => Q σ5 F5 H5 S5 ((g1.f.trans s13).trans s5)
  · have e : i = xs.length := by omega
    subst e
    rw [List.drop_length] at h2
    cases h2
    exact .inl ⟨J1.stop _ H2 (s2.trans S2.s.same) (Nat.le_refl _), Q σ2 F2 H2 S2 (g1.f.trans s2)⟩
end
end Pd

namespace Pd
open PySem PySem.Spec PyProof.Rows L2
section
variable {ι : Type} {T : List (Addr × Str)} {K : PySem.W.Frag} {W : WN} {X : ι → Cx}
/-! ### a list of one's own hand -/
theorem State.own {F0 H0 F H F' H' : Hp} {σ : St} {ρ : Fr} {i : Nat} {a : Addr} {vs : List V} {ds : List D} (S : State T K F0 H0 σ F H ρ) (g : Grow T F H F' H') (ha : H' a = some (.lst vs)) (hf : F' a = Option.none) (hn : Fre (H a)) (r : RpAll K F' vs ds) (hi : i < ρ.length) :
    State T K F0 H0 (σ.set i (some (.ref a))) F' H' (ρ.set i (.ow ds)) := by
  have S' := S.grow g
  have apart : ∀ (j : Nat) (es : List D) (b : Addr), ρ[j]? = some (.ow es) → σ[j]? = some (some (.ref b)) → b ≠ a := fun j es b e1 e2 z => by
    obtain ⟨a', vs', e3, e4, _⟩ := S.ow j es e1
    rw [e2] at e3
    cases e3
    rw [z] at e4
    rw [e4] at hn
    exact hn.lst
  have hiσ : i < σ.length := by rw [← S.ln]; exact hi
  refine ⟨S'.g, by rw [List.length_set, List.length_set]; exact S.ln, fun j e h => ?_, fun j es h => ?_, fun j k es fs b c h1 h2 h3 h4 => ?_, fun j b h => ?_⟩
  · by_cases hj : i = j
    · subst hj
      rw [List.getElem?_set_self hi] at h
      cases h
    · rw [List.getElem?_set_ne hj] at h ⊢
      exact S'.va j e h
  · by_cases hj : i = j
    · subst hj
      rw [List.getElem?_set_self hi] at h
      cases h
      exact ⟨a, vs, List.getElem?_set_self hiσ, ha, hf, S.g.h.free hn, r⟩
    · rw [List.getElem?_set_ne hj] at h ⊢
      exact S'.ow j es h
  · intro hjk
    by_cases hj : i = j
    · subst hj
      rw [List.getElem?_set_self hiσ] at h3
      cases h3
      rw [List.getElem?_set_ne hjk] at h2 h4
      exact (apart k fs c h2 h4).symm
    · rw [List.getElem?_set_ne hj] at h1 h3
      by_cases hk : i = k
      · subst hk
        rw [List.getElem?_set_self hiσ] at h4
        cases h4
        exact apart j es b h1 h3
      · rw [List.getElem?_set_ne hk] at h2 h4
        exact S.dj j k es fs b c h1 h2 h3 h4 hjk
  · by_cases hj : i = j
    · subst hj
      rw [List.getElem?_set_self hi] at h
      cases h
    · rw [List.getElem?_set_ne hj] at h ⊢
      exact S.raw j b h
theorem State.put {F0 H0 F H : Hp} {σ : St} {ρ : Fr} {i : Nat} {a : Addr} {vs vs' : List V} {ds ds' : List D} (S : State T K F0 H0 σ F H ρ) (hi : ρ[i]? = some (.ow ds)) (hs : σ[i]? = some (some (.ref a))) (r : RpAll K F vs' ds') :
    State T K F0 H0 σ F (upd H a (.lst vs')) (ρ.set i (.ow ds')) := by
  obtain ⟨a', us, e1, e2, e3, e4, _⟩ := S.ow i ds hi
  rw [hs] at e1
  cases e1
  have hil : i < ρ.length := (List.getElem?_eq_some_iff.mp hi).1
  refine ⟨⟨S.g.f, S.g.h.put e4 e2, ⟨fun b u e => by rw [upd_ne (ne_of_none e e3)]; exact S.g.s.same _ _ e, S.g.s.nt, Tabs_put e2 S.g.s.tabs⟩, S.g.n⟩, by rw [List.length_set]; exact S.ln, fun j e h => ?_, fun j es h => ?_, fun j k es fs b c h1 h2 h3 h4 hjk => ?_, fun j b h => ?_⟩
  · by_cases hj : i = j
    · subst hj
      rw [List.getElem?_set_self hil] at h
      cases h
    · rw [List.getElem?_set_ne hj] at h
      exact S.va j e h
  · by_cases hj : i = j
    · subst hj
      rw [List.getElem?_set_self hil] at h
      cases h
      exact ⟨a, vs', hs, upd_same, e3, e4, r⟩
    · rw [List.getElem?_set_ne hj] at h
      obtain ⟨b, ws, f1, f2, f3⟩ := S.ow j es h
      exact ⟨b, ws, f1, by rw [upd_ne (S.dj j i es ds b a h hi f1 hs (Ne.symm hj))]; exact f2, f3⟩
  · have fixj : ∃ es', ρ[j]? = some (.ow es') := by
      by_cases hj : i = j
      · subst hj; exact ⟨ds, hi⟩
      · rw [List.getElem?_set_ne hj] at h1; exact ⟨es, h1⟩
    have fixk : ∃ fs', ρ[k]? = some (.ow fs') := by
      by_cases hk : i = k
      · subst hk; exact ⟨ds, hi⟩
      · rw [List.getElem?_set_ne hk] at h2; exact ⟨fs, h2⟩
    obtain ⟨es', q1⟩ := fixj
    obtain ⟨fs', q2⟩ := fixk
    exact S.dj j k es' fs' b c q1 q2 h3 h4 hjk
  · by_cases hj : i = j
    · subst hj
      rw [List.getElem?_set_self hil] at h
      cases h
    · rw [List.getElem?_set_ne hj] at h
      exact S.raw j b h
/-- x = a new list, of one's own hand from here on -/
def mOwn (a : M (List D)) (i : Nat) : M Out := fun ρ => (a ρ).bind fun ds => if i < ρ.length then some (.nx (ρ.set i (.ow ds))) else none
theorem sl_own {te : TE} {a : M (List D)} {i : Nat} (l : FL T K te a) : SL T K W (tAsg te (gName i)) (mOwn a i) := by
  intro F0 H0 σ F H ρ o De S h Q
  unfold mOwn at h
  obtain ⟨ds, e1, h⟩ := Option.bind_eq_some_iff.mp h
  split at h
  · rename_i hi
    cases h
    exact l F0 H0 σ F H ρ ds S e1 _ fun b vs F1 H1 g1 ha hf hn r => Q _ F1 H1 (S.own g1 ha hf hn r hi) g1.f
  · cases h
theorem xs_own {i : Nat} {x : Str} {py : Pos} {e : Expr} {a : M (List D)} {pos : Pos} (ha : XF X T K e a) (hN : ∀ i0, (X i0).N.Nodup) (hi : ∀ i0, (X i0).N[i]? = some x := by intro _; rfl) (hx : ∀ i0, Loc (X i0).env.scope x := by intro _; first | exact Or.inl rfl | exact Or.inr rfl) (hf : ∀ i0, (X i0).fn x = true ∨ (X i0).env.scope.names.lookup x = some .local := by intro _; first | exact .inl rfl | exact .inr rfl)
    (hs : ∀ i0, swapsWith e (some (.Name x py)) pos.line (X i0).env = pure false := by intro _; rfl) : XS X T K W (.Assign [.Name x py] e pos) (mOwn a i) := by
  obtain ⟨t, p, l⟩ := ha
  exact ⟨_, fun i0 => ps_set (hN i0) (hi i0) (hx i0) (p i0) (hs i0) (hf i0), sl_own l⟩
theorem xs_ownLc {i : Nat} {y : Str} {py : Pos} {elt tgt iter : Expr} {ifs : List Expr} {scope : Scope} {own : List (Str × Nat)} {pos spos : Pos} {mi : M (List D)} {is : List Nat} {g : D → Fr → Option Fr} {mt : M Bool} {me : M D} (hN : ∀ i0, (X i0).N.Nodup) (ok : ∀ i0, BlkOk (X i0).N (X i0).env.scope scope own) (hi : XI X T K tgt iter mi)
    (hg : XG (bx X scope) T K tgt is g) (ht : XTs (bx X scope) T K ifs mt) (he : XD (bx X scope) T K elt me)
    (hsw : ∀ i0, swapsWith (.ListComp elt [⟨tgt, iter, ifs, 0⟩] scope pos) (some (.Name y py)) spos.line (X i0).env = pure true) (hy : ∀ i0, (X i0).N[i]? = some y := by intro _; rfl) (hyl : ∀ i0, (X i0).env.scope.names.lookup y = some .local := by intro _; rfl)
    (hc : ∀ i0, (X i0).calm = true := by intro _; rfl) (hv : ∀ i ∈ is, i ∈ own.map (·.2) := by decide) (hs : ∀ i0, ∀ x, foldedSetIterable iter (X i0).env x = pure x := by intro _ _; rfl) : XS X T K W (.Assign [.Name y py] (.ListComp elt [⟨tgt, iter, ifs, 0⟩] scope pos) spos) (mOwn (mLc mi (own.map (·.2)) g mt me) i) := by
  obtain ⟨wi, p1, l1⟩ := hi
  obtain ⟨tg, p2, l2⟩ := hg
  obtain ⟨tt, p3, l3⟩ := ht
  obtain ⟨te, p4, l4⟩ := he
  exact ⟨_, fun i0 => ps_setLc (hc i0) (hN i0) (hy i0) (hyl i0) (hsw i0) (p1 i0) (ok i0) (fun s H C cl fp => p2 (i0, s, H, C, cl, fp)) (fun s H C cl fp => p3 (i0, s, H, C, cl, fp)) (fun s H C cl fp => p4 (i0, s, H, C, cl, fp)) (hs i0), sl_own (fl_lc l1 l2 l3 l4 hv)⟩
/-- x.append(e) -/
def mApp (i : Nat) (a : M D) : M Out := fun ρ => match ρ[i]? with
  | some (.ow ds) => (a ρ).bind fun d => if ds.length < sizeLine then some (.nx (ρ.set i (.ow (ds ++ [d])))) else none
  | _ => none
theorem xs_app (i : Nat) {x : Str} {e : Expr} {a : M D} {p1 apos cpos pos : Pos} (ha : XD X T K e a) (hN : ∀ i0, (X i0).N[i]? = some x := by intro _; rfl) (hv : ∀ i0, Vis (X i0).env.scope x := by intro _; first | exact Or.inl rfl | exact Or.inr (Or.inl rfl) | exact Or.inr (Or.inr rfl)) (hd : (x == ("__debug__" : Str)) = false := by decide) (hcd : (x == ("__classdict__" : Str)) = false := by decide)
    (h1 : ∀ i0, attributeBase (.Name x p1) (Str.ofString "append") (X i0).env (eval (.Name x p1) (X i0).env) = eval (.Name x p1) (X i0).env := by intro _; rfl)
    (h2 : ∀ i0, (((backTo cpos (starEach (e :: []) (X i0).env)).all fun x => !x.1) && (backToKw cpos (keywordEach [] (X i0).env)).all (·.1.isSome) && decide ((e :: ([] : List Expr)).length + ([] : List Keyword).length + (if ([] : List Keyword).isEmpty = true then 0 else 1) < 30)) = true := by intro _; rfl)
    (h3 : (apos.endLine == cpos.line) = true := by rfl) (h4 : ∀ i0, starEach (e :: []) (X i0).env = (false, eval e (X i0).env) :: starEach [] (X i0).env := by intro _; rfl) (h5 : ∀ i0, (backTo cpos (starEach [] (X i0).env)).any (·.1) = false := by intro _; rfl)
    (hs : ∀ i0, swapsWith (.Call (.Attribute (.Name x p1) (Str.ofString "append") apos) [e] [] cpos) none pos.line (X i0).env = pure false := by intro _; rfl) (k : ∀ i0, (X i0).K = K := by intro _; rfl) :
    XS X T K W (.Expr (.Call (.Attribute (.Name x p1) (Str.ofString "append") apos) [e] [] cpos) pos) (mApp i a) := by
  obtain ⟨t, p, l⟩ := ha
  refine ⟨tDrop (tBM K "list" rAppend (tVar i) (tCons t tNil)), fun i0 => by
    have e := k i0
    subst e
    exact ps_expr (pe_bm PySem.F.plainAttrs_list PySem.F.slot_list_append PySem.F.type_list_append mt_append (pe_var (hN i0) (hv i0) hd hcd) (pa_cons (p i0) pa_nil (h4 i0)) (h1 i0) (h2 i0) h3 (h4 i0) (h5 i0)) (hs i0), ?_⟩
  intro F0 H0 σ F H ρ o De S h Q
  unfold mApp at h
  split at h
  · rename_i ds hi
    obtain ⟨d, e1, h⟩ := Option.bind_eq_some_iff.mp h
    split at h
    · rename_i hz
      cases h
      obtain ⟨b, vs, f1, f2, f3, f4, r⟩ := S.ow i ds hi
      refine ⟨_, f1, .inl ⟨rfl, _, SqL.of f2⟩, ?_⟩
      refine l F0 H0 σ F H ρ d S e1 _ fun v F1 H1 g1 r1 => ?_
      have S1 := S.grow g1
      refine ⟨b, vs, v, rfl, rfl, g1.h.lst f2, by rw [r.length]; exact hz, ?_⟩
      exact Q _ F1 _ (S1.put (vs := vs) hi f1 ((r.mono g1.f).append (.cons r1 .nil))) g1.f
    · cases h
  · cases h
/-- from here on the list stays -/
def frzF (i : Nat) (ρ : Fr) : Fr := match ρ[i]? with
  | some (.ow ds) => ρ.set i (.va (.list ds))
  | _ => ρ
theorem State.frz {F0 H0 F H : Hp} {σ : St} {ρ : Fr} (S : State T K F0 H0 σ F H ρ) (i : Nat) : ∃ F1, Same F F1 ∧ State T K F0 H0 σ F1 H (frzF i ρ) := by
  unfold frzF
  split
  · rename_i ds hi
    obtain ⟨a, vs, f1, f2, f3, f4, r⟩ := S.ow i ds hi
    have hil : i < ρ.length := (List.getElem?_eq_some_iff.mp hi).1
    have s2 : Same F (upd F a (.lst vs)) := fun b u e => by rw [upd_ne (ne_of_none e f3)]; exact e
    refine ⟨upd F a (.lst vs), s2, ⟨⟨S.g.f.trans s2, S.g.h, ⟨fun b u e => ?_, fun b ps e => ?_, S.g.s.tabs⟩, fun b u e n => ?_⟩, by rw [List.length_set]; exact S.ln, fun j e h => ?_, fun j es h => ?_, fun j k es fs b c h1 h2 h3 h4 hjk => ?_, fun j b h => ?_⟩⟩
    · by_cases hb : b = a
      · subst hb; rw [upd_same] at e; cases e; exact f2
      · rw [upd_ne hb] at e; exact S.g.s.same _ _ e
    · by_cases hb : b = a
      · subst hb; rw [upd_same] at e; cases e
      · rw [upd_ne hb] at e; exact S.g.s.nt b ps e
    · by_cases hb : b = a
      · subst hb; exact f4
      · rw [upd_ne hb] at e; exact S.g.n _ _ e n
    · by_cases hj : i = j
      · subst hj
        rw [List.getElem?_set_self hil] at h
        cases h
        exact ⟨_, f1, .lst (SqL.of upd_same) (r.mono s2)⟩
      · rw [List.getElem?_set_ne hj] at h
        obtain ⟨v, e1, rv⟩ := S.va j e h
        exact ⟨v, e1, rv.mono s2⟩
    · by_cases hj : i = j
      · subst hj
        rw [List.getElem?_set_self hil] at h
        cases h
      · rw [List.getElem?_set_ne hj] at h
        obtain ⟨b, ws, q1, q2, q3, q4, r2⟩ := S.ow j es h
        exact ⟨b, ws, q1, q2, by rw [upd_ne (S.dj j i es ds b a h hi q1 f1 (Ne.symm hj))]; exact q3, q4, r2.mono s2⟩
    · by_cases hj : i = j
      · subst hj
        rw [List.getElem?_set_self hil] at h1
        cases h1
      · by_cases hk : i = k
        · subst hk
          rw [List.getElem?_set_self hil] at h2
          cases h2
        · rw [List.getElem?_set_ne hj] at h1
          rw [List.getElem?_set_ne hk] at h2
          exact S.dj j k es fs b c h1 h2 h3 h4 hjk
    · by_cases hj : i = j
      · subst hj
        rw [List.getElem?_set_self hil] at h
        cases h
      · rw [List.getElem?_set_ne hj] at h
        exact S.raw j b h
  · exact ⟨F, Same.refl _, S⟩
theorem xss_frz (i : Nat) {sts : List Stmt} {m : M Out} (h : XSs X T K W sts m) : XSs X T K W sts (fun ρ => m (frzF i ρ)) := by
  obtain ⟨t, p, l⟩ := h
  refine ⟨t, p, ?_⟩
  intro F0 H0 σ F H ρ o De S hm Q
  obtain ⟨F1, s1, S1⟩ := S.frz i
  exact l F0 H0 σ F1 H _ o De S1 hm (Q.grow s1)
theorem xs_frz (i : Nat) {st : Stmt} {m : M Out} (h : XS X T K W st m) : XS X T K W st (fun ρ => m (frzF i ρ)) := by
  obtain ⟨t, p, l⟩ := h
  refine ⟨t, p, ?_⟩
  intro F0 H0 σ F H ρ o De S hm Q
  obtain ⟨F1, s1, S1⟩ := S.frz i
  exact l F0 H0 σ F1 H _ o De S1 hm (Q.grow s1)
/-! ### one's own lists seen as data, where nothing of them is handed on -/
def showE : Ent → Ent
  | .ow ds => .va (.list ds)
  | e => e
def showF (ρ : Fr) : Fr := ρ.map showE
open Classical in
theorem State.shown {F0 H0 F H : Hp} {σ : St} {ρ : Fr} (S : State T K F0 H0 σ F H ρ) : ∃ F1, Same F F1 ∧ State T K F0 H0 σ F1 H (showF ρ) := by
  let F1 : Hp := fun b => if (∃ (i : Nat) (ds : List D), ρ[i]? = some (.ow ds) ∧ σ[i]? = some (some (.ref b))) then H b else F b
  have s1 : Same F F1 := fun b u e => by
    show (if _ then H b else F b) = some u
    split
    · exact S.g.s.same _ _ e
    · exact e
  have own : ∀ (i : Nat) (ds : List D) (a : Addr), ρ[i]? = some (.ow ds) → σ[i]? = some (some (.ref a)) → F1 a = H a := fun i ds a h1 h2 => if_pos ⟨i, ds, h1, h2⟩
  refine ⟨F1, s1, ⟨⟨S.g.f.trans s1, S.g.h, ⟨fun b u e => ?_, fun b ps e => ?_, S.g.s.tabs⟩, fun b u e n => ?_⟩, by unfold showF; rw [List.length_map]; exact S.ln, fun j e h => ?_, fun j es h => ?_, fun j k es fs b c h1 => ?_, fun j b h => ?_⟩⟩
  · have e' : (if (∃ (i : Nat) (ds : List D), ρ[i]? = some (.ow ds) ∧ σ[i]? = some (some (.ref b))) then H b else F b) = some u := e
    split at e'
    · exact e'
    · exact S.g.s.same _ _ e'
  · have e' : (if (∃ (i : Nat) (ds : List D), ρ[i]? = some (.ow ds) ∧ σ[i]? = some (some (.ref b))) then H b else F b) = some (.tbl ps) := e
    split at e'
    · rename_i hx
      obtain ⟨i, ds, q1, q2⟩ := hx
      obtain ⟨a, vs, f1, f2, _⟩ := S.ow i ds q1
      rw [q2] at f1
      cases f1
      rw [f2] at e'
      cases e'
    · exact S.g.s.nt b ps e'
  · have e' : (if (∃ (i : Nat) (ds : List D), ρ[i]? = some (.ow ds) ∧ σ[i]? = some (some (.ref b))) then H b else F b) = some u := e
    split at e'
    · rename_i hx
      obtain ⟨i, ds, q1, q2⟩ := hx
      obtain ⟨a, vs, f1, _, _, f4, _⟩ := S.ow i ds q1
      rw [q2] at f1
      cases f1
      exact f4
    · exact S.g.n _ _ e' n
  · unfold showF at h
    rw [List.getElem?_map] at h
    cases q : ρ[j]? with
    | none => rw [q] at h; cases h
    | some w =>
      rw [q] at h
      cases w with
      | no => cases h
      | va d =>
        cases h
        obtain ⟨v, e1, r⟩ := S.va j _ q
        exact ⟨v, e1, r.mono s1⟩
      | ow ds =>
        cases h
        obtain ⟨a, vs, f1, f2, _, _, r⟩ := S.ow j ds q
        exact ⟨_, f1, .lst (SqL.of (by rw [own j ds a q f1]; exact f2)) (r.mono s1)⟩
      | raw a => cases h
  · unfold showF at h
    rw [List.getElem?_map] at h
    cases q : ρ[j]? with
    | none => rw [q] at h; cases h
    | some w => rw [q] at h; cases w <;> cases h
  · unfold showF at h1
    rw [List.getElem?_map] at h1
    cases q : ρ[j]? with
    | none => rw [q] at h1; cases h1
    | some w => rw [q] at h1; cases w <;> cases h1
  · unfold showF at h
    rw [List.getElem?_map] at h
    cases q : ρ[j]? with
    | none => rw [q] at h; cases h
    | some w =>
      rw [q] at h
      cases w <;> cases h
      exact S.raw j b q
theorem flat_any {H H' : Hp} {v : V} {d : D} (r : Rp K H v d) (h : flatD d = true) : Rp K H' v d := by
  cases r <;> first | (simp only [flatD] at h; cases h; done) | constructor
def mShow (a : M D) : M D := fun ρ => (a (showF ρ)).bind fun d => if flatD d then some d else none
theorem xd_show {e : Expr} {a : M D} (ha : XD X T K e a) : XD X T K e (mShow a) := by
  obtain ⟨t, p, l⟩ := ha
  refine ⟨t, p, ?_⟩
  intro F0 H0 σ F H ρ d S h Q q
  unfold mShow at h
  obtain ⟨y, e1, h⟩ := Option.bind_eq_some_iff.mp h
  split at h
  · rename_i hf
    cases h
    obtain ⟨F1, s1, S1⟩ := S.shown
    refine l F0 H0 σ F1 H _ _ S1 e1 _ fun v F2 H2 g2 r2 => ?_
    exact q v F H2 ⟨Same.refl _, g2.h, S.s.keep g2.h, fun b o e n => by rw [n] at e; cases e⟩ (flat_any r2 hf)
  · cases h
def mShowT (a : M Bool) : M Bool := fun ρ => a (showF ρ)
theorem xt_show {e : Expr} {a : M Bool} (ha : XT X T K e a) : XT X T K e (mShowT a) := by
  obtain ⟨t, p, l⟩ := ha
  refine ⟨t, p, ?_⟩
  intro F0 H0 σ F H ρ b S h Q q
  obtain ⟨F1, s1, S1⟩ := S.shown
  refine l F0 H0 σ F1 H _ _ S1 h _ fun F2 H2 g2 => ?_
  exact q F H2 ⟨Same.refl _, g2.h, S.s.keep g2.h, fun b o e n => by rw [n] at e; cases e⟩
end
/-! ### a def -/
/-- nothing is raised -/
def W0 : WN := fun _ _ _ => False
def startF (nl : Nat) (ds : List D) : Fr := ds.map .va ++ List.replicate (nl - ds.length) .no
def runD (np nl : Nat) (m : M Out) (ds : List D) : Option D := if ds.length = np then (m (startF nl ds)).bind fun o => match o with
  | .rt d => some d
  | .nx _ => some .none
  | _ => none
  else none
theorem start_state {T : List (Addr × Str)} {K : PySem.W.Frag} {F H : Hp} {N : List Str} {vs : List V} {ds : List D} (s : Sub T F H) (r : RpAll K F vs ds) : State T K F H (L2.start N vs) F H (startF N.length ds) where
  g := Grow.refl s
  ln := by unfold startF L2.start; simp [r.length]
  va := fun i d h => by
    unfold startF at h
    by_cases hi : i < ds.length
    · rw [List.getElem?_append_left (by simpa using hi), List.getElem?_map] at h
      obtain ⟨e, he⟩ := some_at hi
      rw [he] at h
      cases h
      obtain ⟨v, hv, rv⟩ := r.got he
      refine ⟨v, ?_, rv⟩
      unfold L2.start
      rw [List.getElem?_append_left (by rw [List.length_map, r.length]; exact hi), List.getElem?_map, hv]
      rfl
    · rw [List.getElem?_append_right (by simpa using hi), List.getElem?_replicate] at h
      split at h <;> cases h
  ow := fun i ds' h => by
    unfold startF at h
    by_cases hi : i < ds.length
    · rw [List.getElem?_append_left (by simpa using hi), List.getElem?_map] at h
      obtain ⟨e, he⟩ := some_at hi
      rw [he] at h
      cases h
    · rw [List.getElem?_append_right (by simpa using hi), List.getElem?_replicate] at h
      split at h <;> cases h
  dj := fun i j ds' es a b h => by
    unfold startF at h
    by_cases hi : i < ds.length
    · rw [List.getElem?_append_left (by simpa using hi), List.getElem?_map] at h
      obtain ⟨e, he⟩ := some_at hi
      rw [he] at h
      cases h
    · rw [List.getElem?_append_right (by simpa using hi), List.getElem?_replicate] at h
      split at h <;> cases h
  raw := fun i a h => by
    unfold startF at h
    by_cases hi : i < ds.length
    · rw [List.getElem?_append_left (by simpa using hi), List.getElem?_map] at h
      obtain ⟨e, he⟩ := some_at hi
      rw [he] at h
      cases h
    · rw [List.getElem?_append_right (by simpa using hi), List.getElem?_replicate] at h
      split at h <;> cases h
section
variable {P : Program} {w : World} {T : List (Addr × Str)} {K : PySem.W.Frag} {mg : Str → Option Value} {base : Heap}
theorem fnD {x qual : Str} {st : Stmt} {f : Addr} {fd : FuncData} {N ps : List Str} {k : Nat} {m : M Out} (F : Fun K x qual st f fd) (S : FnScope N ps (defScope st))
    (hb : ∀ (cdv : Value) (A : Around) (outer : List Env) (s : Shared) (H : Hp) (E : XK), Room k (A.deeper (envOfC qual (defScope st) s.heap.objs.size f cdv)) → XSs (fun _ : Unit => (cxOf CX0 P w K mg base N qual (defScope st) f cdv A outer s H E).nox) T K W0 (defBody st) m) :
    FnOk P w K mg base CX0 (k + 1) f fd ps (spD T K (runD ps.length N.length m)) := by
  refine F.ok S (fun vs H Q E h => ?_) (fun cdv A outer s H vs Q E hr h => ?_)
  · obtain ⟨F0, ds, d, s0, r, e, _⟩ := h
    unfold runD at e
    split at e
    · rename_i hz
      rw [r.length]; exact hz
    · cases e
  · obtain ⟨F0, ds, d, s0, r, e, q⟩ := h
    obtain ⟨t, p, l⟩ := hb cdv A outer s H E hr
    refine ⟨t, p (), ?_⟩
    unfold runD at e
    split at e
    · obtain ⟨o, e1, e2⟩ := Option.bind_eq_some_iff.mp e
      refine l F0 H _ F0 H _ o _ (start_state s0 r) e1 ?_
      cases o with
      | rt d' => cases e2; exact fun v F1 H1 g1 r1 => q v F1 H1 g1 r1
      | nx ρ => cases e2; exact fun σ F1 H1 S1 _ => q .non F1 H1 S1.g .non
      | bk ρ => cases e2
      | ct ρ => cases e2
      | ex n ρ => cases e2
    · cases e
/-- a def is worth another function where that gives the same -/
theorem spD_imp {f : Addr} {fd : FuncData} {ps : List Str} {k : Nat} {g g' : List D → Option D} (F : FnOk P w K mg base CX0 k f fd ps (spD T K g)) (h : ∀ ds d, g' ds = some d → g ds = some d) : FnOk P w K mg base CX0 k f fd ps (spD T K g') :=
  F.imp fun vs H Q E ⟨F0, ds, d, s, r, e, q⟩ => ⟨F0, ds, d, s, r, h ds d e, q⟩
end
end Pd

namespace Pd
open PySem PySem.Spec PyProof.Rows L2
section
variable {ι : Type} {T : List (Addr × Str)} {K : PySem.W.Frag} {W : WN} {X : ι → Cx} {e : Expr} {es : List Expr} {m : M (List D)} {p pos : Pos}
theorem xd_len (ha : XA X T K (e :: es) m) (hm : ∀ i0, (X i0).mg "len" = none) (hg : ∀ i0, Gl (X i0) "len" := by intro _; rfl) (he : ∀ i0, starEach (e :: es) (X i0).env = (false, eval e (X i0).env) :: starEach es (X i0).env := by intro _; rfl) (hpl : ∀ i0, (backTo pos (starEach es (X i0).env)).any (·.1) = false := by intro _; rfl) (k : ∀ i0, (X i0).K = K := by intro _; rfl) :
    XD X T K (.Call (.Name "len" p) (e :: es) [] pos) (mA dLen m) :=
  xd_callB (id := "len") (r := rLen3 K) (fun i0 => by have e := k i0; subst e; exact call_len3) cl_len hm (by decide +kernel) ha hg (by decide) (by decide) he hpl
theorem xd_all (ha : XA X T K (e :: es) m) (hm : ∀ i0, (X i0).mg "all" = none) (hc : ∀ i0, (X i0).calm = true := by intro _; rfl) (hg : ∀ i0, Gl (X i0) "all" := by intro _; rfl) (he : ∀ i0, starEach (e :: es) (X i0).env = (false, eval e (X i0).env) :: starEach es (X i0).env := by intro _; rfl) (hpl : ∀ i0, (backTo pos (starEach es (X i0).env)).any (·.1) = false := by intro _; rfl) (k : ∀ i0, (X i0).K = K := by intro _; rfl) :
    XD X T K (.Call (.Name "all" p) (e :: es) [] pos) (mA dAll m) :=
  xd_callB (id := "all") (r := rAll K) (fun i0 => by have e := k i0; subst e; exact cr_all (hc i0)) cl_all hm (by decide +kernel) ha hg (by decide) (by decide) he hpl
theorem xd_any (ha : XA X T K (e :: es) m) (hm : ∀ i0, (X i0).mg "any" = none) (hc : ∀ i0, (X i0).calm = true := by intro _; rfl) (hg : ∀ i0, Gl (X i0) "any" := by intro _; rfl) (he : ∀ i0, starEach (e :: es) (X i0).env = (false, eval e (X i0).env) :: starEach es (X i0).env := by intro _; rfl) (hpl : ∀ i0, (backTo pos (starEach es (X i0).env)).any (·.1) = false := by intro _; rfl) (k : ∀ i0, (X i0).K = K := by intro _; rfl) :
    XD X T K (.Call (.Name "any" p) (e :: es) [] pos) (mA dAny m) :=
  xd_callB (id := "any") (r := rAny K) (fun i0 => by have e := k i0; subst e; exact cr_any (hc i0)) cl_any hm (by decide +kernel) ha hg (by decide) (by decide) he hpl
theorem xd_abs (ha : XA X T K (e :: es) m) (hm : ∀ i0, (X i0).mg "abs" = none) (hg : ∀ i0, Gl (X i0) "abs" := by intro _; rfl) (he : ∀ i0, starEach (e :: es) (X i0).env = (false, eval e (X i0).env) :: starEach es (X i0).env := by intro _; rfl) (hpl : ∀ i0, (backTo pos (starEach es (X i0).env)).any (·.1) = false := by intro _; rfl) :
    XD X T K (.Call (.Name "abs" p) (e :: es) [] pos) (mA dAbs m) :=
  xd_callB (fun _ => call_abs) cl_abs hm (by decide +kernel) ha hg (by decide) (by decide) he hpl
theorem xd_max2 (ha : XA X T K (e :: es) m) (hm : ∀ i0, (X i0).mg "max" = none) (hc : ∀ i0, (X i0).calm = true := by intro _; rfl) (hg : ∀ i0, Gl (X i0) "max" := by intro _; rfl) (he : ∀ i0, starEach (e :: es) (X i0).env = (false, eval e (X i0).env) :: starEach es (X i0).env := by intro _; rfl) (hpl : ∀ i0, (backTo pos (starEach es (X i0).env)).any (·.1) = false := by intro _; rfl) :
    XD X T K (.Call (.Name "max" p) (e :: es) [] pos) (mA dMax2 m) :=
  xd_callB (fun i0 => call_max2 (hc i0)) cl_max2 hm (by decide +kernel) ha hg (by decide) (by decide) he hpl
theorem xd_min2 (ha : XA X T K (e :: es) m) (hm : ∀ i0, (X i0).mg "min" = none) (hc : ∀ i0, (X i0).calm = true := by intro _; rfl) (hg : ∀ i0, Gl (X i0) "min" := by intro _; rfl) (he : ∀ i0, starEach (e :: es) (X i0).env = (false, eval e (X i0).env) :: starEach es (X i0).env := by intro _; rfl) (hpl : ∀ i0, (backTo pos (starEach es (X i0).env)).any (·.1) = false := by intro _; rfl) :
    XD X T K (.Call (.Name "min" p) (e :: es) [] pos) (mA dMin2 m) :=
  xd_callB (fun i0 => call_min2 (hc i0)) cl_min2 hm (by decide +kernel) ha hg (by decide) (by decide) he hpl
theorem xd_int1 (ha : XA X T K (e :: es) m) (hm : ∀ i0, (X i0).mg "int" = none) (hg : ∀ i0, Gl (X i0) "int" := by intro _; rfl) (he : ∀ i0, starEach (e :: es) (X i0).env = (false, eval e (X i0).env) :: starEach es (X i0).env := by intro _; rfl) (hpl : ∀ i0, (backTo pos (starEach es (X i0).env)).any (·.1) = false := by intro _; rfl) :
    XD X T K (.Call (.Name "int" p) (e :: es) [] pos) (mA dInt m) :=
  xd_callTy (fun _ => call_int1) cl_int hm (by decide +kernel) ha hg (by decide) (by decide) he hpl
theorem xd_str1 (ha : XA X T K (e :: es) m) (hm : ∀ i0, (X i0).mg "str" = none) (hg : ∀ i0, Gl (X i0) "str" := by intro _; rfl) (he : ∀ i0, starEach (e :: es) (X i0).env = (false, eval e (X i0).env) :: starEach es (X i0).env := by intro _; rfl) (hpl : ∀ i0, (backTo pos (starEach es (X i0).env)).any (·.1) = false := by intro _; rfl) :
    XD X T K (.Call (.Name "str" p) (e :: es) [] pos) (mA dStr m) :=
  xd_callTy (fun _ => call_str_int) cl_str hm (by decide +kernel) ha hg (by decide) (by decide) he hpl
theorem xd_list1 (ha : XA X T K (e :: es) m) (hm : ∀ i0, (X i0).mg "list" = none) (hg : ∀ i0, Gl (X i0) "list" := by intro _; rfl) (he : ∀ i0, starEach (e :: es) (X i0).env = (false, eval e (X i0).env) :: starEach es (X i0).env := by intro _; rfl) (hpl : ∀ i0, (backTo pos (starEach es (X i0).env)).any (·.1) = false := by intro _; rfl) (k : ∀ i0, (X i0).K = K := by intro _; rfl) :
    XD X T K (.Call (.Name "list" p) (e :: es) [] pos) (mA dListOf m) :=
  xd_callTy (Ty := "list") (r := fun xs H Q => ∃ p ys, xs = [V.ref p] ∧ (SqL K H p ys ∨ SqT K H p ys) ∧ ∀ l, H l = none → Q (.ref l) (upd H l (.lst ys))) (fun i0 => by have e := k i0; subst e; exact call_list_of) cl_list hm (by decide +kernel) ha hg (by decide) (by decide) he hpl
theorem xd_tuple1 (ha : XA X T K (e :: es) m) (hm : ∀ i0, (X i0).mg "tuple" = none) (hg : ∀ i0, Gl (X i0) "tuple" := by intro _; rfl) (he : ∀ i0, starEach (e :: es) (X i0).env = (false, eval e (X i0).env) :: starEach es (X i0).env := by intro _; rfl) (hpl : ∀ i0, (backTo pos (starEach es (X i0).env)).any (·.1) = false := by intro _; rfl) (k : ∀ i0, (X i0).K = K := by intro _; rfl) :
    XD X T K (.Call (.Name "tuple" p) (e :: es) [] pos) (mA dTupleOf m) :=
  xd_callTy (Ty := "tuple") (r := fun xs H Q => ∃ p ys, xs = [V.ref p] ∧ ((SqL K H p ys ∧ ∀ l, H l = none → Q (.ref l) (upd H l (.tup ys))) ∨ SqT K H p ys ∧ Q (.ref p) H)) (fun i0 => by have e := k i0; subst e; exact call_tuple_of) cl_tuple hm (by decide +kernel) ha hg (by decide) (by decide) he hpl
end
section
variable {K : PySem.W.Frag}
theorem RpAll.reverse {H : Hp} : ∀ {vs : List V} {ds : List D}, RpAll K H vs ds → RpAll K H vs.reverse ds.reverse
  | _, _, .nil => .nil
  | _, _, .cons h r => by
    rw [List.reverse_cons, List.reverse_cons]
    exact (RpAll.reverse r).append (.cons h .nil)
end
section
variable {ι : Type} {T : List (Addr × Str)} {K : PySem.W.Frag} {W : WN} {X : ι → Cx}
/-- x.reverse() of one's own list -/
def mRev (i : Nat) : M Out := fun ρ => match ρ[i]? with
  | some (.ow ds) => some (.nx (ρ.set i (.ow ds.reverse)))
  | _ => none
theorem xs_rev (i : Nat) {x : Str} {p1 apos cpos pos : Pos} (hN : ∀ i0, (X i0).N[i]? = some x := by intro _; rfl) (hv : ∀ i0, Vis (X i0).env.scope x := by intro _; first | exact Or.inl rfl | exact Or.inr (Or.inl rfl) | exact Or.inr (Or.inr rfl)) (hd : (x == ("__debug__" : Str)) = false := by decide) (hcd : (x == ("__classdict__" : Str)) = false := by decide)
    (h1 : ∀ i0, attributeBase (.Name x p1) (Str.ofString "reverse") (X i0).env (eval (.Name x p1) (X i0).env) = eval (.Name x p1) (X i0).env := by intro _; rfl) (h3 : (apos.endLine == cpos.line) = true := by rfl)
    (hs : ∀ i0, swapsWith (.Call (.Attribute (.Name x p1) (Str.ofString "reverse") apos) [] [] cpos) none pos.line (X i0).env = pure false := by intro _; rfl) (k : ∀ i0, (X i0).K = K := by intro _; rfl) :
    XS X T K W (.Expr (.Call (.Attribute (.Name x p1) (Str.ofString "reverse") apos) [] [] cpos) pos) (mRev i) := by
  refine ⟨tDrop (tBM0 K "list" rReverse (tVar i)), fun i0 => by
    have e := k i0
    subst e
    exact ps_expr (pe_bm0 PySem.F.plainAttrs_list PySem.F.slot_list_reverse PySem.F.type_list_reverse mt_reverse (pe_var (hN i0) (hv i0) hd hcd) (h1 i0) h3) (hs i0), ?_⟩
  intro F0 H0 σ F H ρ o De S h Q
  unfold mRev at h
  split at h
  · rename_i ds hi
    cases h
    obtain ⟨b, vs, f1, f2, f3, f4, r⟩ := S.ow i ds hi
    exact ⟨_, f1, .inl ⟨rfl, _, SqL.of f2⟩, b, vs, rfl, rfl, f2, Q _ F _ (S.put (vs := vs) hi f1 r.reverse) (Same.refl _)⟩
  · cases h
end
end Pd

namespace Pd
open PySem PySem.Spec PyProof.Rows L2
/-! ### sorted(e, key=lambda pair: pair[0]) -/
abbrev lamA (ap : Pos) : Arguments := { posonlyargs := [], args := [{ arg := "pair", annotation := none, pos := ap }], vararg := none, kwonlyargs := [], kw_defaults := [], kwarg := none, defaults := [] }
abbrev lamB (p1 p2 p3 : Pos) : Expr := .Subscript (.Name "pair" p1) (.Constant (.int 0) 0 p2) p3
abbrev lamC : Scope := { kind := .function, names := [(Str.ofString "pair", .local)], isGenerator := false, isCoroutine := false, more := [] }
theorem get_push {h : Heap} {ob o : Obj} {b : Addr} (e : h.get? b = some o) : (h.push ob).get? b = some o ∧ b ≠ h.objs.size := by
  refine ⟨Heap.get?_push_of_some _ e, ?_⟩
  rintro rfl
  have q : h.objs[h.objs.size]? = none := by simp
  unfold Heap.get? at e
  rw [q] at e
  cases e
theorem lam_turn {prog : Program} {w : World} {A : Around} {E : Value → Shared → Prop} {s : Shared} {h₀ : Heap} {L : Addr} {m : Str → Option Value} {need : List (Addr × Obj)} {f c' : Addr} {qual : Str} {pm ctv : Value} {cl : List (Str × Addr)} {ap p1 p2 p3 : Pos} {t : Addr} {k : Int} {u : Tok} {its : List Value}
    (hd : A.depth + 1 < recursionLimit) (F : PyProof.Rows.Fr h₀ L s.heap m) (N : News h₀ L s.heap need) (hf : s.heap.get? f = some (PySem.W.kla_obj (Str.ofString "<lambda>") qual (lamA ap) (lamB p1 p2 p3) lamC cl pm c' ctv)) (hcr : s.heap.CodeRec (.ref c') qual) (hnl : s.heap.NoLimit) (ht : IsTup s.heap t (Value.int k u :: its).toArray) :
    wpAny (model prog w) A (call (.ref f) [.ref t]) (KskEnd h₀ L m need k s) E s := by
  refine wpAny_call (PySem.W.kla_callFunE (by omega) hf rfl rfl rfl rfl hcr ?_)
  have eb : bindArgs (PySem.W.kla_fn (Str.ofString "<lambda>") qual (lamA ap) (lamB p1 p2 p3) lamC cl pm (.ref c') ctv) { pos := [.ref t], kw := [] } = pure [(Str.ofString "pair", .ref t)] := by rfl
  rw [eb]
  refine wpAny_pure ?_
  refine wpAny_newFunctionEnv (fun x hx => ?_) (fun x hx => ?_) fun h' ns sb => ?_
  · rcases List.mem_singleton.mp hx with rfl
    intro z; cases z
  · rcases List.mem_singleton.mp hx with rfl
    rfl
  have old : ∀ (b : Addr) (o : Obj), s.heap.get? b = some o → h'.get? b = some o := fun b o e => by
    obtain ⟨e1, e2⟩ := get_push (ob := { cls := Value.type "frame", data := Data.dict #[] }) e
    rw [sb.2 b e2]
    exact e1
  refine ⟨?_, PySem.W.kla_codeExpr ?_⟩
  · obtain ⟨mc, n1, n2⟩ := hnl
    refine ⟨mc, ?_, n2⟩
    obtain ⟨o, es, ep, q1, q2⟩ := n1
    exact ⟨o, es, ep, old _ _ q1, q2⟩
  · refine Subscript_ (wpAny_Name (wpAny_loadName_local rfl rfl ns (v := .ref t) rfl ?_) (by decide +kernel))
    refine wpAny_Constant_int ?_
    have ht' : IsTup h' t (Value.int k u :: its).toArray := by
      obtain ⟨o, q1, q2⟩ := ht
      exact ⟨o, old _ _ q1, q2⟩
    refine item_tupleL (j := 0) (x := Value.int k u) ht' (by decide) (by decide) (by simp [seqIndex?]) rfl ?_
    exact ⟨h', _, u, rfl, rfl, F.kept old, fun p hp => ⟨old _ _ (N p hp).1, (N p hp).2⟩⟩
/-- what stands beside its frame stays, when a machine has run that keeps all but new things -/
theorem kept_all {base : Heap} {L : Addr} {h h' : Heap} {m m' : Str → Option Value} (F : PyProof.Rows.Fr base L h m) (F' : PyProof.Rows.Fr base L h' m') (N : ∀ p ∈ allNews base h L, h'.get? p.1 = some p.2) {b : Addr} {o : Obj} (hb : b ≠ L) (e : h.get? b = some o) : h'.get? b = some o := by
  cases q : base.get? b with
  | some u =>
    have e2 := F.keep b u q
    rw [e] at e2
    cases e2
    exact F'.keep b _ q
  | none => exact N (b, o) (mem_allNews hb q e)
def KOut (kz : List Int) (xs ys : List V) : Prop := ∃ ps : List (Int × V), ps.Perm (kz.zip xs) ∧ ys = ps.map (·.2) ∧ ps.Pairwise (fun p q => p.1 ≤ q.1) ∧ ∀ c : Int, ps.filter (fun p => p.1 == c) = (kz.zip xs).filter (fun p => p.1 == c)
def toV : Value → V
  | .ref a => .ref a
  | _ => .non
theorem toV_map : ∀ {xs : List V} {vs : List Value}, Vals xs vs → (∀ x ∈ xs, ∃ t, x = V.ref t) → vs.map toV = xs ∧ ∀ v ∈ vs, ∃ t, v = Value.ref t
  | _, _, .nil, _ => ⟨rfl, fun v hv => by cases hv⟩
  | _, _, .cons h r, hx => by
    obtain ⟨t, e⟩ := hx _ List.mem_cons_self
    subst e
    obtain ⟨e1, e2⟩ := toV_map r fun x hx' => hx x (List.mem_cons_of_mem _ hx')
    have h' : _ = Value.ref t := h
    subst h'
    refine ⟨by rw [List.map_cons, e1]; rfl, fun v hv => ?_⟩
    rcases List.mem_cons.mp hv with rfl | hv
    · exact ⟨t, rfl⟩
    · exact e2 v hv
theorem vals_toV : ∀ {vs : List Value}, (∀ v ∈ vs, ∃ t, v = Value.ref t) → Vals (vs.map toV) vs
  | [], _ => .nil
  | v :: vs, h => by
    obtain ⟨t, e⟩ := h v List.mem_cons_self
    subst e
    exact .cons (show L2.RelV (V.ref t) (Value.ref t) from rfl) (vals_toV fun v hv => h v (List.mem_cons_of_mem _ hv))
theorem filter_map_fst {α β γ : Type} (g : β → γ) (p : α → Bool) : ∀ l : List (α × β), (l.map fun x => (x.1, g x.2)).filter (fun x => p x.1) = (l.filter fun x => p x.1).map fun x => (x.1, g x.2)
  | [] => rfl
  | x :: l => by
    rw [List.map_cons, List.filter_cons, List.filter_cons, filter_map_fst g p l]
    cases p x.1 <;> simp
theorem zip_map2 {α β γ : Type} (g : β → γ) : ∀ (l : List α) (r : List β), l.zip (r.map g) = (l.zip r).map fun x => (x.1, g x.2)
  | [], _ => rfl
  | _ :: _, [] => rfl
  | a :: l, b :: r => by
    show (a, g b) :: l.zip (r.map g) = _
    rw [zip_map2 g l r]
    rfl
theorem kout_of {kz : List Int} {xs : List V} {vs out : List Value} (hv : Vals xs vs) (hx : ∀ x ∈ xs, ∃ t, x = V.ref t) (h : KskOutSt false kz vs out) : KOut kz xs (out.map toV) ∧ Vals (out.map toV) out ∧ out.length ≤ vs.length := by
  obtain ⟨e1, e2⟩ := toV_map hv hx
  obtain ⟨ps, q1, q2, q3, q4⟩ := h
  have hz : kz.zip xs = (kz.zip vs).map fun x => (x.1, toV x.2) := by rw [← e1, zip_map2]
  refine ⟨⟨ps.map fun x => (x.1, toV x.2), ?_, ?_, ?_, fun c => ?_⟩, vals_toV fun v hv => ?_, ?_⟩
  · rw [hz]; exact q1.map _
  · rw [q2, List.map_map, List.map_map]; rfl
  · rw [List.pairwise_map]
    exact q3.imp fun h => by simpa using h
  · rw [hz, filter_map_fst toV (fun i => i == c), filter_map_fst toV (fun i => i == c), q4 c]
  · rw [q2] at hv
    obtain ⟨p, hp, rfl⟩ := List.mem_map.mp hv
    exact e2 _ (List.of_mem_zip (q1.mem_iff.mp hp)).2
  · rw [q2, List.length_map, q1.length_eq, List.length_zip]
    exact Nat.min_le_right _ _
def tSortLam (K : PySem.W.Frag) (T : List (Addr × Str)) (te : TE) : TE := fun σ H Q => te σ H fun x H1 => ∃ (a : Addr) (xs : List V) (kz : List Int), x = .ref a ∧ SqL K H1 a xs ∧ kz.length = xs.length ∧ Tabs T H1 ∧
  (∀ (i : Nat) (v : V) (k : Int), xs[i]? = some v → kz[i]? = some k → ∃ t its, v = .ref t ∧ SqT K H1 t (.int k :: its)) ∧
  ∀ ys H2 p, LamX.ExtN H1 H2 → Tabs T H2 → H2 p = Option.none → KOut kz xs ys → Q (.ref p) (upd H2 p (.lst ys))
theorem SqT_extN {K : PySem.W.Frag} {H H' : Hp} {a : Addr} {xs : List V} (e : LamX.ExtN H H') (h : SqT K H a xs) : SqT K H' a xs := by
  rcases h with (h | ⟨o, h⟩) | h
  · exact .inl (.inl (e _ _ h fun ps z => by cases z))
  · exact .inl (.inr ⟨o, e _ _ h fun ps z => by cases z⟩)
  · exact .inr h
theorem SqL_extN {K : PySem.W.Frag} {H H' : Hp} {a : Addr} {xs : List V} (e : LamX.ExtN H H') (h : SqL K H a xs) : SqL K H' a xs := by
  rcases h with (h | ⟨o, h⟩) | h
  · exact .inl (.inl (e _ _ h fun ps z => by cases z))
  · exact .inl (.inr ⟨o, e _ _ h fun ps z => by cases z⟩)
  · exact .inr h
theorem paired_len {α β : Type} {R : α → β → Prop} : ∀ {l : List α} {r : List β}, Paired R l r → l.length = r.length
  | _, _, .nil => rfl
  | _, _, .cons _ r => congrArg (· + 1) (paired_len r)
theorem paired_got {α β : Type} {R : α → β → Prop} : ∀ {l : List α} {r : List β} {i : Nat} {y : β}, Paired R l r → r[i]? = some y → ∃ x, l[i]? = some x ∧ R x y
  | _, _, _, _, .nil, e => by simp at e
  | _, _, 0, _, .cons h _, e => by
    have e' := Option.some.inj e
    subst e'
    exact ⟨_, rfl, h⟩
  | _, _, i + 1, _, .cons _ r, e => by
    obtain ⟨x, h1, h2⟩ := paired_got (i := i) r e
    exact ⟨x, h1, h2⟩
theorem loc_ne {h : Heap} {L b : Addr} {m : Str → Option Value} {o : Obj} (n : h.Ns L m) (e : h.get? b = some o) (no : ∀ es ep, o.data ≠ Data.dict es ep) : b ≠ L := by
  rintro rfl
  obtain ⟨u, es, ep, q1, q2, _⟩ := n
  rw [e] at q1
  cases q1
  exact no es ep q2
theorem codeO_at {P : Program} {w : World} {H : Hp} {h : Heap} {c : Addr} {q : Str} (z : ObjOk P w H h c (LamX.CodeO c q)) : ∃ o vs t, h.get? c = some o ∧ o.data = Data.fields vs ∧ vs[1]? = some (Value.str q t) := by
  unfold LamX.CodeO at z
  simp only [ObjOk] at z
  exact z.1
theorem ns_ext {h h' : Heap} {L : Addr} {m m2 : Str → Option Value} (a : h.Ns L m) (b : h'.Ns L m) (c : h.Ns L m2) : h'.Ns L m2 := by
  have e : m2 = m := by
    obtain ⟨o, es, ep, a1, a2, a3, a4⟩ := a
    obtain ⟨o', es', ep', c1, c2, c3, c4⟩ := c
    rw [a1] at c1
    cases c1
    rw [a2] at c2
    cases c2
    funext x
    rw [← c4 x, a4 x]
  rw [e]
  exact b
theorem pe_sortLam {X : Cx} {T : List (Addr × Str)} {c P : Addr} {e : Expr} {te : TE} {ap p1 p2 p3 lpos kpos np pos : Pos} (hr : X.A.depth + 1 < recursionLimit) (hg : Gl X "sorted") (hm : X.mg "sorted" = none) (p : PE X e te)
    (tb : LamX.TabB X.base X.mg c P) (hcode : X.env.code = .ref c) (hT : (P, X.env.qual ++ Str.ofString "<lambda>") ∈ T) (hT2 : ∀ p ∈ T, p.1 = P → p.2 = X.env.qual ++ Str.ofString "<lambda>")
    (he : starEach [e] X.env = (false, eval e X.env) :: starEach [] X.env := by rfl) (h1 : backTo pos (starEach [e] X.env) = (false, eval e X.env) :: backTo pos (starEach [] X.env) := by rfl)
    (h2 : ((backTo pos (starEach [e] X.env)).any fun x => x.1) = false := by rfl) :
    PE X (.Call (.Name "sorted" np) [e] [⟨some "key", .Lambda (lamA ap) (lamB p1 p2 p3) lamC lpos, kpos⟩] pos) (tSortLam X.K T te) := by
  constructor
  intro pins s σ H Q I q
  refine wpAny_Call_Name_kw (ld_blt I hg hm (u := .builtin "sorted") (by decide +kernel) ?_)
  refine callWith_kw ?_ h1 h2
  refine wpAny_mono ((pa_cons p pa_nil he).run pos pins s σ H (fun vs H1 => match vs with
      | [x] => ∃ (a : Addr) (xs : List V) (kz : List Int), x = .ref a ∧ SqL X.K H1 a xs ∧ kz.length = xs.length ∧ Tabs T H1 ∧
        (∀ (i : Nat) (v : V) (k : Int), xs[i]? = some v → kz[i]? = some k → ∃ t its, v = .ref t ∧ SqT X.K H1 t (.int k :: its)) ∧
        ∀ ys H2 p, LamX.ExtN H1 H2 → Tabs T H2 → H2 p = Option.none → KOut kz xs ys → Q (.ref p) (upd H2 p (.lst ys))
      | _ => False) I q) ?_ fun _ _ z => z
  · rintro us s1 ⟨vs, H1, I1, rv, q1⟩
    obtain ⟨x, rfl, a, xs, kz, rfl, hs, hl, ht, hk, fin⟩ : ∃ x, vs = [x] ∧ ∃ (a : Addr) (xs : List V) (kz : List Int), x = .ref a ∧ SqL X.K H1 a xs ∧ kz.length = xs.length ∧ Tabs T H1 ∧
        (∀ (i : Nat) (v : V) (k : Int), xs[i]? = some v → kz[i]? = some k → ∃ t its, v = .ref t ∧ SqT X.K H1 t (.int k :: its)) ∧
        ∀ ys H2 p, LamX.ExtN H1 H2 → Tabs T H2 → H2 p = Option.none → KOut kz xs ys → Q (.ref p) (upd H2 p (.lst ys)) := by
      match vs, q1 with
      | [x], q1 => exact ⟨x, rfl, q1⟩
    obtain ⟨u, us', rfl, ru, rn⟩ : ∃ u us', us = u :: us' ∧ L2.RelV (.ref a) u ∧ Vals [] us' := by
      cases rv with
      | cons h r => exact ⟨_, _, rfl, h, r⟩
    cases rn
    have eu : u = Value.ref a := ru
    subst eu
    refine kwAll_cons ?_
    refine LamX.lam_make2 I1 tb hcode hT hT2 ht rfl (fun y hy z => ?_) fun f c' pm ctv H2 s2 I2 hx ht2 hf hf0 hfs hcd => ?_
    · rcases List.mem_singleton.mp hy with rfl
      cases z
    refine kwAll_nil ?_
    show wpAny _ _ (call (Value.builtin "sorted") [Value.ref a] [(Str.ofString "key", Value.ref f)]) _ _ _
    obtain ⟨m, F⟩ := I2.fr
    obtain ⟨its, vv, pl, hz⟩ := I2.list (SqL_extN hx hs)
    have hlen : its.length = xs.length := (paired_len vv).symm
    have hxr : ∀ x ∈ xs, ∃ t, x = V.ref t := fun x hx' => by
      obtain ⟨i, hi, e⟩ := List.getElem_of_mem hx'
      obtain ⟨k, e2⟩ := some_at (xs := kz) (i := i) (by rw [hl]; exact hi)
      obtain ⟨t, its', e3, _⟩ := hk i x k (by rw [List.getElem?_eq_getElem hi, e]) e2
      exact ⟨t, e3⟩
    refine ksk_sortedSt (b := false) (kz := kz) (f := .ref f) (vs := its) F (news_all (g := X.base) (L := X.env.locals)) ?_ (by rw [hl, hlen]) (by rw [hlen]; exact hz) (ksk_s1 _ _) (fun _ => ksk_l1 _ _) (fun _ => ksk_t1 _ _) ?_ ?_
    · obtain ⟨o, n, g1, g2, _, g3⟩ := pl
      exact ⟨o, g1, g2, n, g3⟩
    · intro i v k hv hkz h tk own Fh Nh
      obtain ⟨x, hx1, rx⟩ := paired_got vv hv
      obtain ⟨t, its', e3, st⟩ := hk i x k hx1 hkz
      subst e3
      have ev : v = Value.ref t := rx
      subst ev
      obtain ⟨tits, tv, tt, _⟩ := I2.tuple (SqT_extN hx st)
      have kp : ∀ {b : Addr} {o : Obj}, b ≠ X.env.locals → s2.heap.get? b = some o → h.get? b = some o := fun hb e => kept_all F Fh (fun p hp => (Nh p (List.mem_append_left _ hp)).1) hb e
      cases tv with
      | cons ri rest =>
        obtain ⟨u, eu⟩ := ri
        subst eu
        obtain ⟨to, t1, t2, tn, t3⟩ := tt
        obtain ⟨co, cvs, ct, c1, c2, c3⟩ := codeO_at (I2.hok _ _ hcd)
        have hfl := kp (loc_ne F.ns hf (fun es ep z => by cases z)) hf
        refine lam_turn (by exact hr) Fh Nh hfl ⟨c', co, cvs, ct, rfl, kp (loc_ne F.ns c1 (fun es ep z => by rw [c2] at z; cases z)) c1, c2, c3⟩ ?_ ⟨to, kp (loc_ne F.ns t1 (fun es ep z => by rw [t3] at z; cases z)) t1, t2, tn, t3⟩
        obtain ⟨mc, ⟨no, es, ep, n1, n2⟩, n3⟩ := I2.ok.mod.nolimit
        exact ⟨mc, ⟨no, es, ep, Fh.keep _ _ n1, n2⟩, n3⟩
    · intro D h' tk out cnt Fh Nh hD ho
      obtain ⟨o1, o2, o3⟩ := kout_of vv hxr ho
      have kp : ∀ {b : Addr} {o : Obj}, b ≠ X.env.locals → s2.heap.get? b = some o → h'.get? b = some o := fun hb e => kept_all F Fh (fun p hp => (Nh p (List.mem_cons_of_mem _ hp)).1) hb e
      obtain ⟨d1, d2, d3⟩ := Nh _ List.mem_cons_self
      have dnew : ∀ {b : Addr} {o : Obj}, s2.heap.get? b = some o → b ≠ D := by
        rintro b o e rfl
        exact absurd (hD _ (mem_allNews d2 d3 e)) (Nat.lt_irrefl _)
      have hD0 : H2 D = Option.none := by
        cases q : H2 D with
        | none => rfl
        | some o =>
          obtain ⟨u, hu⟩ := objOk_get (I2.hok _ _ q)
          exact absurd rfl (dnew hu)
      obtain ⟨lo, les, lep, l1, l2⟩ := F.ns
      obtain ⟨lo', les', lep', l1', l2'⟩ := Fh.ns
      refine ⟨.ref D, upd H2 D (.lst (out.toList.map toV)), ?_, rfl, fin _ H2 D hx ht2 hD0 o1⟩
      refine I2.step (ch := []) (fun b hb => by cases hb) (fun b o hb _ _ e _ => kp hb e) (fun b o hb _ _ e _ => ⟨o.slots, kp hb e⟩) (fun b o _ e hb => by rw [upd_ne (dnew e)]; exact hb)
        (fun b o _ e => ?_) (fun b xs e => by rw [upd_ne (ne_of_none e hD0)]; exact e) (fun b o u e => by rw [upd_ne (ne_of_none e hD0)]; exact e) (fun b ps e => ⟨#[], by rw [upd_ne (ne_of_none e hD0)]; simpa using e⟩) (fun m2 hm2 => ?_) (fun b o e => ?_) I2.bare
      · by_cases hb : b = X.env.locals
        · subst hb; exact ⟨lo', l1'⟩
        · exact ⟨o, kp hb e⟩
      · exact ns_ext ⟨lo, les, lep, l1, l2⟩ ⟨lo', les', lep', l1', l2'⟩ hm2
      · by_cases hb : b = D
        · subst hb
          rw [upd_same] at e
          cases e
          simp only [ObjOk]
          refine ⟨?_, out.toList, cnt, o2, by rw [d1]⟩
          rw [List.length_map]
          exact Nat.le_trans o3 (by rw [hlen]; exact hz)
        · rw [upd_ne hb] at e
          refine (I2.hok _ _ e).stay (fun c u hc hu => kp ?_ hu) (fun c hc => by rw [upd_ne (ne_of_none hc hD0)]; exact hc) (fun c xs hc => by rw [upd_ne (ne_of_none hc hD0)]; exact hc)
          rintro rfl
          have hL := I2.free
          rcases hc with hc | hc
          · rw [hc, e] at hL; cases hL
          · rw [hc] at hL; cases hL
end Pd

namespace Pd
open PySem PySem.Spec PyProof.Rows L2
/-! ### stable sort by a whole number -/
def insK {α : Type} (p : Int × α) : List (Int × α) → List (Int × α)
  | [] => [p]
  | q :: r => if p.1 ≤ q.1 then p :: q :: r else q :: insK p r
def sortK {α : Type} : List (Int × α) → List (Int × α)
  | [] => []
  | p :: r => insK p (sortK r)
theorem insK_filter {α : Type} (p : Int × α) (c : Int) : ∀ l : List (Int × α), (insK p l).filter (fun x => x.1 == c) = (p :: l).filter (fun x => x.1 == c)
  | [] => rfl
  | q :: r => by
    unfold insK
    split
    · rfl
    · rename_i hp
      rw [List.filter_cons, insK_filter p c r, List.filter_cons, List.filter_cons, List.filter_cons]
      by_cases h1 : (q.1 == c) = true
      · by_cases h2 : (p.1 == c) = true
        · have e1 := eq_of_beq h1
          have e2 := eq_of_beq h2
          omega
        · rw [if_pos h1, if_neg h2, if_neg h2, if_pos h1]
      · rw [if_neg h1, if_neg h1]
theorem sortK_filter {α : Type} (c : Int) : ∀ l : List (Int × α), (sortK l).filter (fun x => x.1 == c) = l.filter (fun x => x.1 == c)
  | [] => rfl
  | p :: r => by
    unfold sortK
    rw [insK_filter, List.filter_cons, sortK_filter c r, List.filter_cons]
theorem insK_mem {α : Type} {p x : Int × α} : ∀ {l : List (Int × α)}, x ∈ insK p l → x = p ∨ x ∈ l
  | [], h => .inl (List.mem_singleton.mp h)
  | q :: r, h => by
    unfold insK at h
    split at h
    · rcases List.mem_cons.mp h with h | h
      · exact .inl h
      · exact .inr h
    · rcases List.mem_cons.mp h with h | h
      · exact .inr (h ▸ List.mem_cons_self)
      · rcases insK_mem h with h | h
        · exact .inl h
        · exact .inr (List.mem_cons_of_mem _ h)
theorem insK_pw {α : Type} (p : Int × α) : ∀ {l : List (Int × α)}, l.Pairwise (fun x y => x.1 ≤ y.1) → (insK p l).Pairwise (fun x y => x.1 ≤ y.1)
  | [], _ => by unfold insK; simp
  | q :: r, h => by
    unfold insK
    split
    · rename_i hp
      refine List.pairwise_cons.mpr ⟨fun x hx => ?_, h⟩
      rcases List.mem_cons.mp hx with rfl | hx
      · exact hp
      · exact Int.le_trans hp ((List.pairwise_cons.mp h).1 x hx)
    · rename_i hp
      refine List.pairwise_cons.mpr ⟨fun x hx => ?_, insK_pw p (List.pairwise_cons.mp h).2⟩
      rcases insK_mem hx with rfl | hx
      · omega
      · exact (List.pairwise_cons.mp h).1 x hx
theorem sortK_pw {α : Type} : ∀ l : List (Int × α), (sortK l).Pairwise (fun x y => x.1 ≤ y.1)
  | [] => List.Pairwise.nil
  | p :: r => insK_pw p (sortK_pw r)
theorem insK_perm {α : Type} (p : Int × α) : ∀ l : List (Int × α), (insK p l).Perm (p :: l)
  | [] => List.Perm.refl _
  | q :: r => by
    unfold insK
    split
    · exact List.Perm.refl _
    · exact ((insK_perm p r).cons q).trans (List.Perm.swap _ _ _)
theorem sortK_perm {α : Type} : ∀ l : List (Int × α), (sortK l).Perm l
  | [] => List.Perm.refl _
  | p :: r => (insK_perm p _).trans ((sortK_perm r).cons p)
theorem sortK_unique {α : Type} : ∀ {l1 l2 : List (Int × α)}, l1.Pairwise (fun x y => x.1 ≤ y.1) → l2.Pairwise (fun x y => x.1 ≤ y.1) → (∀ c : Int, l1.filter (fun x => x.1 == c) = l2.filter (fun x => x.1 == c)) → l1 = l2
  | [], [], _, _, _ => rfl
  | [], q :: r, _, _, h => by
    have z := h q.1
    simp at z
  | p :: t, [], _, _, h => by
    have z := h p.1
    simp at z
  | p :: t, q :: r, h1, h2, h => by
    have a1 := List.pairwise_cons.mp h1
    have a2 := List.pairwise_cons.mp h2
    have hle : ∀ (p q : Int × α) (t r : List (Int × α)), (∀ x ∈ r, q.1 ≤ x.1) → (p :: t).filter (fun x => x.1 == p.1) = (q :: r).filter (fun x => x.1 == p.1) → q.1 ≤ p.1 := by
      intro p q t r hr e
      have m : p ∈ (q :: r).filter (fun x => x.1 == p.1) := by
        rw [← e]
        exact List.mem_filter.mpr ⟨List.mem_cons_self, by simp⟩
      rcases List.mem_cons.mp (List.mem_filter.mp m).1 with rfl | m
      · exact Int.le_refl _
      · exact hr _ m
    have e1 := hle p q t r a2.1 (h p.1)
    have e2 := hle q p r t a1.1 (h q.1).symm
    have e : p.1 = q.1 := Int.le_antisymm e2 e1
    have hp := h p.1
    rw [List.filter_cons, List.filter_cons, if_pos (by simp), if_pos (by rw [e]; simp)] at hp
    have epq : p = q := (List.cons.inj hp).1
    subst epq
    have ih : t = r := sortK_unique a1.2 a2.2 fun c => by
      have z := h c
      rw [List.filter_cons, List.filter_cons] at z
      split at z
      · exact (List.cons.inj z).2
      · exact z
    rw [ih]
theorem kout_sort {kz : List Int} {xs ys : List V} (h : KOut kz xs ys) : ys = (sortK (kz.zip xs)).map (·.2) := by
  obtain ⟨ps, q1, q2, q3, q4⟩ := h
  have e : ps = sortK (kz.zip xs) := sortK_unique q3 (sortK_pw _) fun c => by rw [q4 c, sortK_filter]
  rw [q2, e]
section
variable {K : PySem.W.Frag}
/-- rows of keys: values, data -/
inductive Both (K : PySem.W.Frag) (H : Hp) : List (Int × V) → List (Int × D) → Prop
  | nil : Both K H [] []
  | cons {k : Int} {v : V} {d : D} {l : List (Int × V)} {r : List (Int × D)} : Rp K H v d → Both K H l r → Both K H ((k, v) :: l) ((k, d) :: r)
theorem both_zip {H : Hp} : ∀ {ks : List Int} {vs : List V} {ds : List D}, RpAll K H vs ds → Both K H (ks.zip vs) (ks.zip ds)
  | [], _, _, _ => .nil
  | _ :: _, _, _, .nil => .nil
  | _ :: _, _, _, .cons h r => .cons h (both_zip r)
theorem both_ins {H : Hp} {k : Int} {v : V} {d : D} (h : Rp K H v d) : ∀ {l : List (Int × V)} {r : List (Int × D)}, Both K H l r → Both K H (insK (k, v) l) (insK (k, d) r)
  | _, _, .nil => .cons h .nil
  | _, _, .cons (k := j) h2 b => by
    show Both K H (if k ≤ j then _ else _) (if k ≤ j then _ else _)
    split
    · exact .cons h (.cons h2 b)
    · exact .cons h2 (both_ins h b)
theorem both_sort {H : Hp} : ∀ {l : List (Int × V)} {r : List (Int × D)}, Both K H l r → Both K H (sortK l) (sortK r)
  | _, _, .nil => .nil
  | _, _, .cons h b => both_ins h (both_sort b)
theorem both_all {H : Hp} : ∀ {l : List (Int × V)} {r : List (Int × D)}, Both K H l r → RpAll K H (l.map (·.2)) (r.map (·.2))
  | _, _, .nil => .nil
  | _, _, .cons h b => .cons h (both_all b)
end
/-- the first parts of tuples, whole numbers -/
def firsts : List D → Option (List Int)
  | [] => some []
  | .tuple (.int k :: _) :: r => (firsts r).map (k :: ·)
  | _ :: _ => none
def dSortK : D → Option D
  | .list ds => (firsts ds).map fun ks => .list ((sortK (ks.zip ds)).map (·.2))
  | _ => none
theorem firsts_len : ∀ {ds : List D} {ks : List Int}, firsts ds = some ks → ks.length = ds.length
  | [], _, h => by cases h; rfl
  | d :: ds, ks, h => by
    unfold firsts at h
    split at h
    · cases ‹_ = []›
    · rename_i k r r' e
      cases e
      obtain ⟨m, e1, rfl⟩ := Option.map_eq_some_iff.mp h
      rw [List.length_cons, firsts_len e1]; rfl
    · cases h
theorem firsts_at : ∀ {ds : List D} {ks : List Int} {i : Nat} {d : D} {k : Int}, firsts ds = some ks → ds[i]? = some d → ks[i]? = some k → ∃ r, d = .tuple (.int k :: r)
  | [], _, _, _, _, _, h, _ => by simp at h
  | e :: ds, ks, i, d, k, h, hd, hk => by
    unfold firsts at h
    split at h
    · cases ‹_ = []›
    · rename_i k' r r' e'
      cases e'
      obtain ⟨m, e1, rfl⟩ := Option.map_eq_some_iff.mp h
      cases i with
      | zero =>
        have a1 := Option.some.inj hd
        have a2 := Option.some.inj hk
        subst a1 a2
        exact ⟨_, rfl⟩
      | succ i => exact firsts_at e1 (by simpa using hd) (by simpa using hk)
    · cases h
section
variable {ι : Type} {T : List (Addr × Str)} {K : PySem.W.Frag} {X : ι → Cx}
theorem xd_sortLam {c P : Addr} {e : Expr} {a : M D} {ap p1 p2 p3 lpos kpos np pos : Pos} (ha : XD X T K e a) (hr : ∀ i0, (X i0).A.depth + 1 < recursionLimit) (hm : ∀ i0, (X i0).mg "sorted" = none)
    (tb : ∀ i0, LamX.TabB (X i0).base (X i0).mg c P) (hcode : ∀ i0, (X i0).env.code = .ref c) (hT : ∀ i0, (P, (X i0).env.qual ++ Str.ofString "<lambda>") ∈ T) (hT2 : ∀ i0, ∀ p ∈ T, p.1 = P → p.2 = (X i0).env.qual ++ Str.ofString "<lambda>")
    (hg : ∀ i0, Gl (X i0) "sorted" := by intro _; rfl) (he : ∀ i0, starEach [e] (X i0).env = (false, eval e (X i0).env) :: starEach [] (X i0).env := by intro _; rfl) (h1 : ∀ i0, backTo pos (starEach [e] (X i0).env) = (false, eval e (X i0).env) :: backTo pos (starEach [] (X i0).env) := by intro _; rfl)
    (h2 : ∀ i0, ((backTo pos (starEach [e] (X i0).env)).any fun x => x.1) = false := by intro _; rfl) (k : ∀ i0, (X i0).K = K := by intro _; rfl) :
    XD X T K (.Call (.Name "sorted" np) [e] [⟨some "key", .Lambda (lamA ap) (lamB p1 p2 p3) lamC lpos, kpos⟩] pos) (m1 dSortK a) := by
  obtain ⟨t, p, l⟩ := ha
  refine ⟨tSortLam K T t, fun i0 => by have e := k i0; subst e; exact pe_sortLam (hr i0) (hg i0) (hm i0) (p i0) (tb i0) (hcode i0) (hT i0) (hT2 i0) (he i0) (h1 i0) (h2 i0), ?_⟩
  intro F0 H0 σ F H ρ d S h Q q
  unfold m1 at h
  obtain ⟨y, e1, h⟩ := Option.bind_eq_some_iff.mp h
  refine l F0 H0 σ F H ρ y S e1 _ fun v F1 H1 g1 r1 => ?_
  cases y <;> simp only [dSortK] at h <;> try (cases h; done)
  rename_i ds
  obtain ⟨ks, e2, h⟩ := Option.map_eq_some_iff.mp h
  subst h
  cases r1 with
  | lst hs r =>
    rename_i a vs
    refine ⟨a, vs, ks, rfl, g1.s.same.seq hs, by rw [firsts_len e2, r.length], g1.s.tabs, fun i v k hv hk => ?_, fun ys H2 b hx ht hb ho => ?_⟩
    · obtain ⟨d, hd, rd⟩ := r.get hv
      obtain ⟨rr, e3⟩ := firsts_at e2 hd hk
      subst e3
      cases rd with
      | tup hs2 ra =>
        cases ra with
        | cons h0 _ =>
          cases h0
          exact ⟨_, _, rfl, SqT_same g1.s.same hs2⟩
    · have e3 := kout_sort ho
      subst e3
      have k2 : Keep T H1 H2 := ⟨hx, fun _ => ht⟩
      have s2 : Sub T F1 H2 := g1.s.keep k2
      have g2 : Grow T F1 H1 F1 H2 := ⟨Same.refl _, k2, s2, fun b o e n => by rw [n] at e; cases e⟩
      have g3 : Grow T F1 H2 _ _ := Grow.new (T := T) (o := .lst ((sortK (ks.zip vs)).map (·.2))) s2 hb
      exact q _ _ _ ((g1.trans g2).trans g3) (.lst (SqL.of upd_same) (both_all (both_sort (both_zip (r.mono g3.f)))))
end
end Pd

namespace Pd
open PySem PySem.Spec PyProof.Rows L2
/-! ### dicts -/
def keyOf : D → Option Key
  | .int i => some (.inl i)
  | .str x => some (.inr x)
  | _ => none
theorem keyOf_kD (k : Key) : keyOf (kD k) = some k := by cases k <;> rfl
theorem keyOf_eq {d : D} {k : Key} (h : keyOf d = some k) : d = kD k := by
  cases d <;> simp only [keyOf] at h <;> cases h <;> rfl
def dGetV (ds : List (D × D)) (k : Key) : Option D := (ds.find? fun p => decide (keyOf p.1 = some k)).map (·.2)
def dInK : D → D → Option D := fun x y => match y with
  | .dict ds => (keyOf x).map fun k => .bool (dGetV ds k).isSome
  | _ => none
def dNotInK : D → D → Option D := fun x y => match y with
  | .dict ds => (keyOf x).map fun k => .bool (!(dGetV ds k).isSome)
  | _ => none
def dDGet : D → D → Option D := fun x y => match x with
  | .dict ds => (keyOf y).bind fun k => dGetV ds k
  | _ => none
def putD (ks : List (Key × D)) (k : Key) (d : D) : List (Key × D) := if (ks.any fun p => decide (p.1 = k)) = true then ks.map fun p => if p.1 = k then (p.1, d) else p else ks ++ [(k, d)]
def dictD (ks : List (Key × D)) : D := .dict (ks.map fun p => (kD p.1, p.2))
section
variable {K : PySem.W.Frag}
theorem rp_key {H : Hp} {v : V} {d : D} {k : Key} (r : Rp K H v d) (h : keyOf d = some k) : v = kV k := by
  cases r <;> simp only [keyOf] at h <;> cases h <;> rfl
inductive RpK (K : PySem.W.Frag) (H : Hp) : List (Key × V) → List (Key × D) → Prop
  | nil : RpK K H [] []
  | cons {k : Key} {v : V} {d : D} {l : List (Key × V)} {r : List (Key × D)} : Rp K H v d → RpK K H l r → RpK K H ((k, v) :: l) ((k, d) :: r)
theorem RpK.mono {H H' : Hp} (e : Same H H') : ∀ {l : List (Key × V)} {r : List (Key × D)}, RpK K H l r → RpK K H' l r
  | _, _, .nil => .nil
  | _, _, .cons h r => .cons (h.mono e) (r.mono e)
theorem RpK.kv {H : Hp} : ∀ {l : List (Key × V)} {r : List (Key × D)}, RpK K H l r → RpKv K H l (r.map fun p => (kD p.1, p.2))
  | _, _, .nil => .nil
  | _, _, .cons h r => .cons h r.kv
theorem RpK.any {H : Hp} (k : Key) : ∀ {l : List (Key × V)} {r : List (Key × D)}, RpK K H l r → (l.any fun p => decide (p.1 = k)) = r.any fun p => decide (p.1 = k)
  | _, _, .nil => rfl
  | _, _, .cons _ r => by rw [List.any_cons, List.any_cons, r.any]
theorem RpK.map {H : Hp} {k : Key} {v : V} {d : D} (h : Rp K H v d) : ∀ {l : List (Key × V)} {r : List (Key × D)}, RpK K H l r → RpK K H (l.map fun p => if p.1 = k then (p.1, v) else p) (r.map fun p => if p.1 = k then (p.1, d) else p)
  | _, _, .nil => .nil
  | _, _, .cons (k := j) h2 r => by
    rw [List.map_cons, List.map_cons]
    by_cases e : j = k
    · rw [if_pos e, if_pos e]
      exact .cons h (r.map h)
    · rw [if_neg e, if_neg e]
      exact .cons h2 (r.map h)
theorem RpK.app {H : Hp} {k : Key} {v : V} {d : D} (h : Rp K H v d) : ∀ {l : List (Key × V)} {r : List (Key × D)}, RpK K H l r → RpK K H (l ++ [(k, v)]) (r ++ [(k, d)])
  | _, _, .nil => .cons h .nil
  | _, _, .cons h2 r => .cons h2 (r.app h)
theorem RpK.put {H : Hp} {k : Key} {v : V} {d : D} {l : List (Key × V)} {r : List (Key × D)} (b : RpK K H l r) (h : Rp K H v d) : RpK K H (putK l k v) (putD r k d) := by
  unfold putK putD
  rw [b.any k]
  split
  · exact b.map h
  · exact b.app h
theorem RpK.len {H : Hp} : ∀ {l : List (Key × V)} {r : List (Key × D)}, RpK K H l r → l.length = r.length
  | _, _, .nil => rfl
  | _, _, .cons _ r => congrArg (· + 1) r.len
theorem putD_len {ks : List (Key × D)} {k : Key} {d : D} : (putD ks k d).length ≤ ks.length + 1 := by
  unfold putD
  split
  · rw [List.length_map]; omega
  · rw [List.length_append]; exact Nat.le_refl _
theorem kv_get {H : Hp} (k : Key) : ∀ {kvs : List (Key × V)} {ds : List (D × D)}, RpKv K H kvs ds → (valV kvs k = none ∧ dGetV ds k = none) ∨ ∃ v d, valV kvs k = some v ∧ dGetV ds k = some d ∧ Rp K H v d
  | _, _, .nil => .inl ⟨rfl, rfl⟩
  | _, _, .cons (k := j) (v := v) (d := d) h r => by
    unfold valV dGetV
    rw [List.find?_cons, List.find?_cons]
    by_cases e : j = k
    · subst e
      exact .inr ⟨v, d, by simp, by simp [keyOf_kD], h⟩
    · have e1 : decide (j = k) = false := decide_eq_false e
      have e2 : decide (keyOf (kD j) = some k) = false := decide_eq_false (by rw [keyOf_kD]; intro z; exact e (Option.some.inj z))
      rw [e1, e2]
      exact kv_get k r
end
section
variable {ι : Type} {T : List (Addr × Str)} {K : PySem.W.Frag} {X : ι → Cx}
theorem el_din {ty td : TE} {b : Bool} {x y : M D} (hx : EL T K ty x) (hy : EL T K td y) : EL T K (fun σ H Q => ty σ H fun y H1 => td σ H1 fun x H2 => ∃ a o, x = V.ref a ∧ DGet H2 a y o ∧ Q (V.bl (b ^^ o.isSome)) H2)
    (m2 (fun dx dy => match dy with | .dict ds => (keyOf dx).map fun k => .bool (b ^^ (dGetV ds k).isSome) | _ => none) x y) := by
  intro F0 H0 σ F H ρ d S h Q q
  unfold m2 at h
  obtain ⟨dx, e1, h⟩ := Option.bind_eq_some_iff.mp h
  obtain ⟨dy, e2, h⟩ := Option.bind_eq_some_iff.mp h
  refine hx F0 H0 σ F H ρ dx S e1 _ fun v F1 H1 g1 r1 => ?_
  refine hy F0 H0 σ F1 H1 ρ dy (S.grow g1) e2 _ fun u F2 H2 g2 r2 => ?_
  cases dy <;> simp only at h <;> try (cases h; done)
  rename_i ds
  obtain ⟨k, e3, h⟩ := Option.map_eq_some_iff.mp h
  subst h
  have ev := rp_key r1 e3
  subst ev
  cases r2 with
  | dct hd rk =>
    rename_i a kvs
    have key : (valV kvs k).isSome = (dGetV ds k).isSome := by
      rcases kv_get k rk with ⟨a1, a2⟩ | ⟨v, d, a1, a2, _⟩ <;> rw [a1, a2] <;> rfl
    refine ⟨a, valV kvs k, rfl, DGet.k (g2.s.same _ _ hd), ?_⟩
    rw [key]
    exact q _ F2 H2 (g1.trans g2) (.bl _)
theorem xd_din {i o : Expr} {x y : M D} {pos : Pos} (hu : ∀ i0, (X i0).A.units + 65 < cLine) (hx : XD X T K i x) (hy : XD X T K o y) (hm : behindInMarks .In o = false := by rfl) : XD X T K (.Compare i [.In] [o] pos) (m2 dInK x y) := by
  obtain ⟨t, p, l⟩ := hx
  obtain ⟨u, p2, l2⟩ := hy
  refine ⟨_, fun i0 => pe_cmp (pc_din (by have := hu i0; omega) (p i0) (p2 i0)) hm, ?_⟩
  have z := el_din (b := false) l l2
  simp only [Bool.false_xor] at z
  exact z
theorem xt_din {i o : Expr} {x y : M D} {pos : Pos} (hu : ∀ i0, (X i0).A.units + 65 < cLine) (hx : XD X T K i x) (hy : XD X T K o y) (hm : behindInMarks .In o = false := by rfl) : XT X T K (.Compare i [.In] [o] pos) (mB (m2 dInK x y)) := by
  obtain ⟨t, p, l⟩ := hx
  obtain ⟨u, p2, l2⟩ := hy
  refine ⟨_, fun i0 => pt_cmp (pc_din (by have := hu i0; omega) (p i0) (p2 i0)) hm, ?_⟩
  have z := el_din (b := false) l l2
  simp only [Bool.false_xor] at z
  exact tl_test z
theorem xd_dget {o i : Expr} {x y : M D} {pos : Pos} (hu : ∀ i0, (X i0).A.units + 65 < cLine) (hx : XD X T K o x) (hy : XD X T K i y) (hp : NoSl i := by intro _ _; rfl) : XD X T K (.Subscript o i pos) (m2 dDGet x y) := by
  obtain ⟨t, p, l⟩ := hx
  obtain ⟨u, p2, l2⟩ := hy
  refine ⟨_, fun i0 => pe_dget (by have := hu i0; omega) (p i0) (p2 i0) hp, ?_⟩
  intro F0 H0 σ F H ρ d S h Q q
  unfold m2 at h
  obtain ⟨dx, e1, h⟩ := Option.bind_eq_some_iff.mp h
  obtain ⟨dy, e2, h⟩ := Option.bind_eq_some_iff.mp h
  refine l F0 H0 σ F H ρ dx S e1 _ fun v F1 H1 g1 r1 => ?_
  refine l2 F0 H0 σ F1 H1 ρ dy (S.grow g1) e2 _ fun u F2 H2 g2 r2 => ?_
  cases dx <;> simp only [dDGet] at h <;> try (cases h; done)
  rename_i ds
  obtain ⟨k, e3, h⟩ := Option.bind_eq_some_iff.mp h
  have ev := rp_key r2 e3
  subst ev
  cases r1 with
  | dct hd rk =>
    rename_i a kvs
    rcases kv_get k rk with ⟨a1, a2⟩ | ⟨v, d', a1, a2, a3⟩
    · rw [a2] at h; cases h
    · rw [a2] at h; cases h
      refine ⟨a, v, rfl, ?_, q v F2 H2 (g1.trans g2) (a3.mono g2.f)⟩
      rw [← a1]
      exact DGet.k (g2.s.same _ _ (g2.f _ _ hd))
/-- {k: v for target in iter if ..} -/
def compK (f : D → Option (Option (Key × D))) : List D → List (Key × D) → Option (List (Key × D))
  | [], acc => some acc
  | x :: xs, acc => (f x).bind fun o => match o with
    | some (k, d) => compK f xs (putD acc k d)
    | none => compK f xs acc
def turnK (g : D → Fr → Option Fr) (mt : M Bool) (mk mv : M D) (ρ : Fr) (x : D) : Option (Option (Key × D)) := (g x ρ).bind fun ρ2 => (mt ρ2).bind fun b => if b = true then (mk ρ2).bind fun y => (keyOf y).bind fun k => (mv ρ2).map fun d => some (k, d) else some none
def mDc (mi : M (List D)) (vs : List Nat) (g : D → Fr → Option Fr) (mt : M Bool) (mk mv : M D) : M D := fun ρ => (mi ρ).bind fun xs => if xs.length ≤ sizeLine then (compK (turnK g mt mk mv (wipeF ρ vs)) xs []).map dictD else none
theorem compK_take {f : D → Option (Option (Key × D))} : ∀ {xs : List D} {i : Nat} {x : D} {acc r : List (Key × D)}, compK f xs acc = some r → xs[i]? = some x →
    ∃ r1 o, compK f (xs.take i) acc = some r1 ∧ f x = some o ∧ compK f (xs.take (i + 1)) acc = some (match o with | some (k, d) => putD r1 k d | none => r1)
  | [], _, _, _, _, _, e => by simp at e
  | y :: ys, 0, x, acc, r, h, e => by
    have e' : y = x := Option.some.inj e
    subst e'
    obtain ⟨o, e1, h⟩ := Option.bind_eq_some_iff.mp (show (f y).bind _ = some r from h)
    refine ⟨acc, o, rfl, e1, ?_⟩
    show (f y).bind _ = _
    rw [e1]
    cases o with
    | none => rfl
    | some p => rfl
  | y :: ys, i + 1, x, acc, r, h, e => by
    obtain ⟨o, e1, h⟩ := Option.bind_eq_some_iff.mp (show (f y).bind _ = some r from h)
    cases o with
    | none =>
      obtain ⟨r1, o2, h1, h2, h3⟩ := compK_take (i := i) h (by simpa using e)
      refine ⟨r1, o2, ?_, h2, ?_⟩
      · show (f y).bind _ = _
        rw [e1]; exact h1
      · show (f y).bind _ = _
        rw [e1]; exact h3
    | some p =>
      obtain ⟨r1, o2, h1, h2, h3⟩ := compK_take (i := i) h (by simpa using e)
      refine ⟨r1, o2, ?_, h2, ?_⟩
      · show (f y).bind _ = _
        rw [e1]; exact h1
      · show (f y).bind _ = _
        rw [e1]; exact h3
theorem compK_len {f : D → Option (Option (Key × D))} : ∀ {xs : List D} {acc r : List (Key × D)}, compK f xs acc = some r → r.length ≤ acc.length + xs.length
  | [], acc, r, h => by cases h; simp
  | y :: ys, acc, r, h => by
    obtain ⟨o, e1, h⟩ := Option.bind_eq_some_iff.mp (show (f y).bind _ = some r from h)
    cases o with
    | none =>
      have := compK_len (show compK f ys acc = some r from h)
      simp only [List.length_cons]; omega
    | some p =>
      have := compK_len (show compK f ys (putD acc p.1 p.2) = some r from h)
      have := putD_len (ks := acc) (k := p.1) (d := p.2)
      simp only [List.length_cons]; omega
theorem Tabs_putD {H : Hp} {a : Addr} {vs : List (Key × V)} {o : HO} (ha : H a = some (.dK vs)) (t : Tabs T H) : Tabs T (upd H a o) := fun p hp => by
  obtain ⟨ps, a1, a2, a3⟩ := t p hp
  refine ⟨ps, ?_, a2, fun pos cv hcv => ?_⟩
  · rw [upd_ne (fun z => by rw [z, ha] at a1; cases a1)]
    exact a1
  · obtain ⟨c, e1, e2⟩ := a3 pos cv hcv
    refine ⟨c, e1, ?_⟩
    rw [upd_ne (fun z => by rw [z, ha] at e2; unfold LamX.CodeO at e2; cases e2)]
    exact e2
theorem Keep.putD {H0 H : Hp} {a : Addr} {vs : List (Key × V)} {o : HO} (k : Keep T H0 H) (hn : Fre (H0 a)) (ha : H a = some (.dK vs)) : Keep T H0 (upd H a o) :=
  ⟨fun b u e n => by rw [upd_ne (hn.ne e n)]; exact k.old b u e n, fun t => Tabs_putD ha (k.tabs t)⟩
theorem Fre.dK {vs : List (Key × V)} {p : Prop} (h : Fre (some (.dK vs))) : p := by
  rcases h with h | ⟨ps, h⟩ <;> cases h
theorem el_dc {wi : TI} {mi : M (List D)} {tg : TG} {is vs : List Nat} {g : D → Fr → Option Fr} {tt : TT} {mt : M Bool} {tk tv : TE} {mk mv : M D} (hi : IL T K wi mi) (hg : GL T K tg is g) (ht : TL T K tt mt) (hk : EL T K tk mk) (he : EL T K tv mv) (hv : ∀ i ∈ is, i ∈ vs) :
    EL T K (tDc wi tg tt tk tv vs) (mDc mi vs g mt mk mv) := by
  intro F0 H0 σ F H ρ ds S h Q q
  unfold mDc at h
  obtain ⟨xs, e1, h⟩ := Option.bind_eq_some_iff.mp h
  split at h
  · rename_i hz
    obtain ⟨rs, hrs, h⟩ := Option.map_eq_some_iff.mp h
    subst h
    refine hi F0 H0 σ F H ρ xs S e1 _ fun J F1 H1 g1 J1 => ?_
    intro Dd hD
    refine ⟨fun i m H2 => m = xs.length - i ∧ i ≤ xs.length ∧ ∃ F2 us r, Grow T F1 H1 F2 H2 ∧ H2 Dd = some (.dK us) ∧ F2 Dd = Option.none ∧ compK (turnK g mt mk mv (wipeF ρ vs)) (xs.take i) [] = some r ∧ RpK K F2 us r,
      ⟨xs.length, by simp, Nat.zero_le _, F1, [], [], Grow.mine g1.s hD, upd_same, g1.s.same.free hD, rfl, .nil⟩, ?_⟩
    rintro i m H2 ⟨rfl, hil, F2, us, r, g2, hDl, hDf, hc, hr⟩
    by_cases hlt : i < xs.length
    · obtain ⟨d, hd⟩ := some_at hlt
      obtain ⟨r1, o, hc1, hfo, hro⟩ := compK_take hrs hd
      rw [hc] at hc1
      cases hc1
      have hul : us.length < sizeLine := by
        have h1 := compK_len hc
        rw [hr.len]
        rw [List.length_take] at h1
        simp only [List.length_nil] at h1
        omega
      refine .inr ⟨J1.go i H2 (g2.f.trans g2.s.same) hlt, fun H3 => ∃ F3 us' rr, Grow T F1 H1 F3 H3 ∧ H3 Dd = some (.dK us') ∧ F3 Dd = Option.none ∧ compK (turnK g mt mk mv (wipeF ρ vs)) (xs.take (i + 1)) [] = some rr ∧ RpK K F3 us' rr, ?_, ?_⟩
      · rintro H3 ⟨F3, us', rr, g3, a1, a2, a4, a3⟩
        exact ⟨xs.length - (i + 1), by omega, rfl, hlt, F3, us', rr, g3, a1, a2, a4, a3⟩
      · intro x H3 hy
        obtain ⟨F3, g3, rx⟩ := J1.yld i d F2 H2 x H3 g2.f g2.s hd hy
        have g23 := g2.trans g3
        have S3 : State T K F0 H0 (L2.wipe σ vs) F3 H3 (wipeF ρ vs) := ((S.wipe vs).grow g1).grow g23
        unfold turnK at hfo
        obtain ⟨ρ2, e2, hfo⟩ := Option.bind_eq_some_iff.mp hfo
        obtain ⟨b, e3, hfo⟩ := Option.bind_eq_some_iff.mp hfo
        have dIn : ∀ {F' H' : Hp}, Grow T F3 H3 F' H' → H' Dd = some (.dK us) ∧ F' Dd = Option.none := fun {F' H'} g' => by
          have h3 : H3 Dd = some (.dK us) := g3.h.old _ _ hDl fun ps z => by cases z
          have f3 : F3 Dd = Option.none := by
            cases q : F3 Dd with
            | none => rfl
            | some u => have z := g3.n Dd u q hDf; rw [hDl] at z; exact z.dK
          refine ⟨g'.h.old _ _ h3 (fun ps z => by cases z), ?_⟩
          cases q : F' Dd with
          | none => rfl
          | some u => have z := g'.n Dd u q f3; rw [h3] at z; exact z.dK
        refine hg F0 H0 _ F3 H3 _ x d ρ2 S3 rx e2 _ fun σ4 S4 w4 => ?_
        refine ⟨by rw [w4 vs hv]; exact wipe_wipeX, ?_⟩
        refine ht F0 H0 σ4 F3 H3 ρ2 b S4 e3 _ fun F5 H5 g5 => ?_
        cases b with
        | true =>
          rw [if_pos rfl] at hfo ⊢
          obtain ⟨y, e6, hfo⟩ := Option.bind_eq_some_iff.mp hfo
          obtain ⟨kk, e7, hfo⟩ := Option.bind_eq_some_iff.mp hfo
          obtain ⟨dd, e8, e9⟩ := Option.map_eq_some_iff.mp hfo
          subst e9
          refine hk F0 H0 σ4 F5 H5 ρ2 y (S4.grow g5) e6 _ fun v F6 H6 g6 r6 => ?_
          refine he F0 H0 σ4 F6 H6 ρ2 dd ((S4.grow g5).grow g6) e8 _ fun u F7 H7 g7 r7 => ?_
          obtain ⟨a1, a2⟩ := dIn ((g5.trans g6).trans g7)
          have g17 := ((g23.trans g5).trans g6).trans g7
          have hDn : H1 Dd = Option.none := hD
          refine ⟨us, kk, rp_key r6 e7, a1, hul, F7, putK us kk u, _, ⟨g17.f, g17.h.putD (.inl hDn) a1, ⟨fun b u e => by rw [upd_ne (ne_of_none e a2)]; exact g17.s.same _ _ e, g17.s.nt, Tabs_putD a1 g17.s.tabs⟩, g17.n⟩, upd_same, a2, hro, ?_⟩
          exact ((hr.mono g3.f).mono ((g5.f.trans g6.f).trans g7.f)).put r7
        | false =>
          rw [if_neg Bool.false_ne_true] at hfo ⊢
          cases hfo
          obtain ⟨a1, a2⟩ := dIn g5
          exact ⟨F5, us, r, g23.trans g5, a1, a2, hro, (hr.mono g3.f).mono g5.f⟩
    · have e : i = xs.length := by omega
      subst e
      rw [List.take_length, hrs] at hc
      cases hc
      refine .inl ⟨J1.stop _ H2 (g2.f.trans g2.s.same) (Nat.le_refl _), ?_⟩
      have s2 : Same F2 (upd F2 Dd (.dK us)) := fun b u e => by rw [upd_ne (ne_of_none e hDf)]; exact e
      exact q (.ref Dd) _ H2 (keep_new (g1.trans g2) hDl hDf (g1.h.free (.inl hD))) (.dct upd_same (hr.mono s2).kv)
  · cases h
theorem xd_dc {kx vx tgt iter : Expr} {ifs : List Expr} {scope : Scope} {own : List (Str × Nat)} {pos : Pos} {mi : M (List D)} {is : List Nat} {g : D → Fr → Option Fr} {mt : M Bool} {mk mv : M D} (hN : ∀ i0, (X i0).N.Nodup) (ok : ∀ i0, BlkOk (X i0).N (X i0).env.scope scope own) (hi : XI X T K tgt iter mi)
    (hg : XG (bx X scope) T K tgt is g) (ht : XTs (bx X scope) T K ifs mt) (hk : XD (bx X scope) T K kx mk) (he : XD (bx X scope) T K vx mv)
    (hc : ∀ i0, (X i0).calm = true := by intro _; rfl) (hv : ∀ i ∈ is, i ∈ own.map (·.2) := by decide) (hs : ∀ i0, ∀ x, foldedSetIterable iter (X i0).env x = pure x := by intro _ _; rfl) : XD X T K (.DictComp kx vx [⟨tgt, iter, ifs, 0⟩] scope pos) (mDc mi (own.map (·.2)) g mt mk mv) := by
  obtain ⟨wi, p1, l1⟩ := hi
  obtain ⟨tg, p2, l2⟩ := hg
  obtain ⟨tt, p3, l3⟩ := ht
  obtain ⟨tk, p5, l5⟩ := hk
  obtain ⟨te, p4, l4⟩ := he
  exact ⟨_, fun i0 => pe_dc (hc i0) (hN i0) (p1 i0) (ok i0) (fun s H C cl fp => p2 (i0, s, H, C, cl, fp)) (fun s H C cl fp => p3 (i0, s, H, C, cl, fp)) (fun s H C cl fp => p5 (i0, s, H, C, cl, fp)) (fun s H C cl fp => p4 (i0, s, H, C, cl, fp)) (hs i0), el_dc l1 l2 l3 l5 l4 hv⟩
end
end Pd

namespace Pd
open PySem PySem.Spec PyProof.Rows L2
/-! ### tuples of whole numbers by order; names of mirrors -/
def dLeT : D → D → Option D
  | .tuple xs, .tuple ys => (asInts xs).bind fun ns => (asInts ys).map fun ms => .bool (Ob.lexAt (fun j => decide (ns.getD j 0 = ms.getD j 0)) (fun j => decide (ns.getD j 0 ≤ ms.getD j 0)) (decide (ns.length ≤ ms.length)) 0 (min ns.length ms.length))
  | _, _ => none
def dLtT : D → D → Option D
  | .tuple xs, .tuple ys => (asInts xs).bind fun ns => (asInts ys).map fun ms => .bool (HT.lexLt ns ms)
  | _, _ => none
theorem dLeT2 (a b c d : Int) : dLeT (.tuple [.int a, .int b]) (.tuple [.int c, .int d]) = some (.bool (if a = c then decide (b ≤ d) else decide (a ≤ c))) := by
  show some (PyData.bool (Ob.lexAt _ _ _ 0 2)) = _
  unfold Ob.lexAt
  by_cases h : a = c
  · subst h
    by_cases h2 : b = d
    · subst h2
      simp [Ob.lexAt]
    · simp [Ob.lexAt, h2]
  · simp [h]
section
variable {ι : Type} {T : List (Addr × Str)} {K : PySem.W.Frag} {X : ι → Cx}
theorem ol_leT : OpL T K (rLeT K) dLeT := by
  intro F H x y dx dy d s rx ry h Q q
  cases rx <;> (first | (cases ry <;> simp only [dLeT] at h <;> cases h; done) | skip)
  cases ry <;> simp only [dLeT] at h <;> try (cases h; done)
  rename_i a xs ds hs ra b ys es hs2 rb
  obtain ⟨ns, e1, h⟩ := Option.bind_eq_some_iff.mp h
  obtain ⟨ms, e2, h⟩ := Option.map_eq_some_iff.mp h
  subst h
  obtain ⟨f1, _⟩ := asInts_rp ra e1
  obtain ⟨f2, _⟩ := asInts_rp rb e2
  subst f1 f2
  exact ⟨a, b, ns, ms, rfl, rfl, SqT_same s.same hs, SqT_same s.same hs2, q _ F H (Grow.refl s) (.bl _)⟩
theorem ol_ltT : OpL T K (rLtT K) dLtT := by
  intro F H x y dx dy d s rx ry h Q q
  cases rx <;> (first | (cases ry <;> simp only [dLtT] at h <;> cases h; done) | skip)
  cases ry <;> simp only [dLtT] at h <;> try (cases h; done)
  rename_i a xs ds hs ra b ys es hs2 rb
  obtain ⟨ns, e1, h⟩ := Option.bind_eq_some_iff.mp h
  obtain ⟨ms, e2, h⟩ := Option.map_eq_some_iff.mp h
  subst h
  obtain ⟨f1, _⟩ := asInts_rp ra e1
  obtain ⟨f2, _⟩ := asInts_rp rb e2
  subst f1 f2
  exact ⟨a, b, ns, ms, rfl, rfl, SqT_same s.same hs, SqT_same s.same hs2, q _ F H (Grow.refl s) (.bl _)⟩
theorem opk_leT (hu : ∀ i0, (X i0).A.units + 65 < cLine) (k : ∀ i0, (X i0).K = K := by intro _; rfl) : ∀ i0, OpR (X i0) (compareOp .LtE) (rLeT K) := fun i0 => by
  have e := k i0
  subst e
  exact op_leT (by have := hu i0; omega)
theorem opk_ltT (hu : ∀ i0, (X i0).A.units + 65 < cLine) (k : ∀ i0, (X i0).K = K := by intro _; rfl) : ∀ i0, OpR (X i0) (compareOp .Lt) (rLtT K) := fun i0 => by
  have e := k i0
  subst e
  exact op_ltT (by have := hu i0; omega)
def mFLst (m : M (List D)) : M (List D) := fun ρ => (m ρ).bind fun xs => if xs.length ≤ sizeLine then some xs else none
def mFList (a : M D) : M (List D) := fun ρ => (a ρ).bind fun x => match x with
  | .list xs => some xs
  | .tuple xs => some xs
  | _ => none
end
end Pd

namespace Pd
open PySem PySem.Spec PyProof.Rows L2
section
variable {P : Program} {w : World} {T : List (Addr × Str)} {K : PySem.W.Frag} {mg : Str → Option Value} {base : Heap}
/-- a def whose code object is known: for lambdas -/
theorem fnD2 {x qual : Str} {st : Stmt} {f c : Addr} {fd : FuncData} {N ps : List Str} {k : Nat} {m : M Out} (F : Fun K x qual st f fd) (hc : fd.code = .ref c) (S : FnScope N ps (defScope st))
    (hb : ∀ (A : Around) (outer : List Env) (s : Shared) (H : Hp) (E : XK), Room k (A.deeper (envOfC qual (defScope st) s.heap.objs.size f (.ref c))) → XSs (fun _ : Unit => (cxOf CX0 P w K mg base N qual (defScope st) f (.ref c) A outer s H E).nox) T K W0 (defBody st) m) :
    FnOk P w K mg base CX0 (k + 1) f fd ps (spD T K (runD ps.length N.length m)) := by
  obtain ⟨⟨oc, od, kV, doc, pm, an, cdv, ct, osl, e1, e2, e3⟩, kp⟩ := F
  subst e1
  have e4 : cdv = .ref c := hc
  subst e4
  refine L2.fn_of (CX := CX0) e2 e3 S (fun vs H Q E h => ?_) (fun A outer s H vs Q E hr h => ?_)
  · obtain ⟨F0, ds, d, s0, r, e, _⟩ := h
    unfold runD at e
    split at e
    · rename_i hz
      rw [r.length]; exact hz
    · cases e
  · obtain ⟨F0, ds, d, s0, r, e, q⟩ := h
    obtain ⟨t, p, l⟩ := hb A outer s H E hr
    refine ⟨t, (p ()).nox, ?_⟩
    unfold runD at e
    split at e
    · obtain ⟨o, e1, e2⟩ := Option.bind_eq_some_iff.mp e
      refine l F0 H _ F0 H _ o _ (start_state s0 r) e1 ?_
      cases o with
      | rt d' => cases e2; exact fun v F1 H1 g1 r1 => q v F1 H1 g1 r1
      | nx ρ => cases e2; exact fun σ F1 H1 S1 _ => q .non F1 H1 S1.g .non
      | bk ρ => cases e2
      | ct ρ => cases e2
      | ex n ρ => cases e2
    · cases e
/-- what the law's own promise is: the script's whole numbers in, True out -/
def spEnd (T : List (Addr × Str)) (K : PySem.W.Frag) (n : Nat) : Sp := fun vs H Q _ => ∃ (a : Addr) (ns : List Int), vs = [.ref a] ∧ SqL K H a (ns.map V.int) ∧ ns.length ≤ n ∧ (∀ z ∈ ns, Builtin.Int.intBits z ≤ 1048576) ∧ Tabs T H ∧ ∀ H', Q (.bl true) H'
open Classical in
theorem end_ok {f : Addr} {fd : FuncData} {ps : List Str} {k n : Nat} {g : List D → Option D} (F : FnOk P w K mg base CX0 k f fd ps (spD T K g))
    (h : ∀ ns : List Int, ns.length ≤ n → (∀ z ∈ ns, Builtin.Int.intBits z ≤ 1048576) → g [.list (ns.map .int)] = some (.bool true)) : FnOk P w K mg base CX0 k f fd ps (spEnd T K n) := by
  refine F.imp fun vs H Q E ⟨a, ns, e, hs, hl, hb, ht, q⟩ => ?_
  subst e
  let F0 : Hp := fun b => if ∃ ps, H b = some (.tbl ps) then none else H b
  have s0 : Sub T F0 H := by
    refine ⟨fun b o e => ?_, fun b ps e => ?_, ht⟩
    · have e' : (if ∃ ps, H b = some (.tbl ps) then none else H b) = some o := e
      split at e'
      · cases e'
      · exact e'
    · have e' : (if ∃ ps, H b = some (.tbl ps) then none else H b) = some (.tbl ps) := e
      split at e'
      · cases e'
      · rename_i hx
        exact hx ⟨ps, e'⟩
  have keep : ∀ {b : Addr} {o : HO}, H b = some o → (∀ ps, o ≠ .tbl ps) → F0 b = some o := fun {b o} e n => by
    show (if ∃ ps, H b = some (.tbl ps) then none else H b) = some o
    rw [if_neg]
    · exact e
    · rintro ⟨ps, z⟩
      rw [e] at z
      exact n ps (Option.some.inj z)
  have hs0 : SqL K F0 a (ns.map V.int) := by
    rcases hs with (h | ⟨o, h⟩) | h
    · exact .inl (.inl (keep h fun ps z => by cases z))
    · exact .inl (.inr ⟨o, keep h fun ps z => by cases z⟩)
    · exact .inr h
  have allI : ∀ l : List Int, RpAll K F0 (l.map V.int) (l.map PyData.int) := by
    intro l
    induction l with
    | nil => exact .nil
    | cons i l ih => exact .cons (.int i) ih
  refine ⟨F0, [.list (ns.map .int)], .bool true, s0, .cons (.lst hs0 (allI ns)) .nil, h ns hl hb, fun v F' H' g' r => ?_⟩
  cases r
  exact q H'
/-- the code object's parts that the making of inner code asks -/
def codeOk (vs : Array Value) (P : Addr) : Bool := (match vs[11]? with | some (Value.ref q) => q == P | _ => false) && (match vs.getD 18 Value.none with | Value.str _ _ => true | _ => false) && (match vs.getD 7 Value.none with | Value.int _ _ => true | _ => false) && (match vs.getD 9 Value.none with | Value.bool _ => true | _ => false) && (match vs.getD 10 Value.none with | Value.int _ _ => true | _ => false)
theorem codeHd_of {h : Heap} {c P : Addr} {od : Option Addr} {vs : Array Value} {sl : Array (Option Value)} (X : K.In h) (e : K.lookup c = some ⟨.type "code", od, .fields vs, sl⟩) (ok : codeOk vs P = true) (ne : c ≠ P) : PySem.W.CodeHd h c P := by
  unfold codeOk at ok
  simp only [Bool.and_eq_true] at ok
  obtain ⟨⟨⟨⟨o1, o2⟩, o3⟩, o4⟩, o5⟩ := ok
  have a1 : vs[11]? = some (.ref P) := by
    split at o1
    · rename_i q hq
      rw [hq, eq_of_beq o1]
    · cases o1
  have a1' : vs.getD 11 Value.none = .ref P := by
    rw [Array.getD_eq_getD_getElem?, a1]; rfl
  split at o2
  · rename_i file tf h2
    split at o3
    · rename_i fl tg h3
      split at o4
      · rename_i inF h4
        split at o5
        · rename_i tx tt h5
          exact ⟨_, vs, file, tf, fl, tg, inF, tx, tt, X _ _ e, rfl, rfl, a1, a1', h2, h3, h4, h5, ne⟩
        · cases o5
      · cases o4
    · cases o3
  · cases o2
theorem walkT {l : PySem.W.OpenLaw} {q : Program} {loose : List Str} {XP : (Str → Option Value) → Heap → Prop} {YP : World → Heap → Prop} {d : DefRec} {K : Params → PySem.W.Frag} {k : Nat} {x : Str} (hn : l.most = some 63) (hdf : d.params.defaults = []) (hr : Room k callerA)
    (hY : ∀ (w : World) (h : Heap), YP w h → (K w.params).In h)
    (F : ∀ (w : World) (mg : Str → Option Value) (fa : Addr) (h : Heap), YP w h → (K w.params).In h → h.Ns mainGlobals mg → mg d.name = some (.ref fa) →
      ∃ (cs : List (Addr × Addr)) (T : List (Addr × Str)) (fd : FuncData), (∀ p ∈ cs, h.get? p.2 = some { cls := Value.none, data := Data.fields #[] }) ∧ (∀ p ∈ cs, (K w.params).lookup p.2 = none) ∧ (∀ p ∈ cs, PySem.W.CodeHd h p.1 p.2) ∧ (∀ t ∈ T, ∃ p ∈ cs, p.2 = t.1) ∧
        (∀ (s : Shared) (u : Value), BindsTo s fd ⟨[u], []⟩ [(x, u)]) ∧ ∀ base : Heap, (K w.params).In base → base.Ns mainGlobals mg → (∀ p ∈ cs, LamX.TabB base mg p.1 p.2) → FnOk l.prog w (K w.params) mg base CX0 k fa fd [x] (spEnd T (K w.params) 63)) :
    PySem.W.WalkO q loose XP YP l.row.toRowW d [] (fun f vs => PySem.call f vs) := by
  refine LamX.walk_ofTs (n := 63) (k := k) (x := x) (CX := fun _ => CX0) hn (by decide) hdf hr hY (fun w mg fa h Y X G hmg => ?_) fun _ _ _ _ _ z => z
  obtain ⟨cs, T, fd, h1, h2, h3, h4, h5, h6⟩ := F w mg fa h Y X G hmg
  refine ⟨fd, cs, spEnd T (K w.params) 63, h1, h2, h3, h5, fun H a ns hl hb ht hs => ?_, h6⟩
  refine ⟨a, ns, rfl, hs, hl, hb, fun t hT => ?_, fun _ => rfl⟩
  obtain ⟨p, hp, e⟩ := h4 t hT
  rw [← e]
  exact LamX.TabS.nil (ht p hp)
end
end Pd
namespace Pd
open PySem PySem.Spec PyProof.Rows L2
theorem depth1 {k : Nat} {A : Around} (r : Room k A) : A.depth + 1 < recursionLimit := by have := r.dp; omega
end Pd

namespace Pd
open PySem PySem.Spec PyProof.Rows L2
/-! ### working mirrors out -/
theorem compL_fm {α : Type} {f : D → Option (Option D)} {e : α → D} {o : α → Option D} : ∀ {l : List α}, (∀ a ∈ l, f (e a) = some (o a)) → compL f (l.map e) = some (l.filterMap o)
  | [], _ => rfl
  | a :: l, h => by
    rw [List.map_cons]
    unfold compL
    rw [h a List.mem_cons_self, compL_fm fun b hb => h b (List.mem_cons_of_mem _ hb), List.filterMap_cons]
    cases o a <;> rfl
theorem mLc_fm {α : Type} {mi : M (List D)} {vs : List Nat} {g : D → Fr → Option Fr} {mt : M Bool} {me : M D} {ρ : Fr} {e : α → D} {o : α → Option D} {l : List α} (hi : mi ρ = some (l.map e)) (hl : l.length ≤ sizeLine) (h : ∀ a ∈ l, turnD g mt me (wipeF ρ vs) (e a) = some (o a)) : mLc mi vs g mt me ρ = some (l.filterMap o) := by
  unfold mLc
  rw [hi, Option.bind_some, if_pos (by rw [List.length_map]; exact hl), compL_fm h]
theorem mLc_map {α : Type} {mi : M (List D)} {vs : List Nat} {g : D → Fr → Option Fr} {mt : M Bool} {me : M D} {ρ : Fr} {e : α → D} {o : α → D} {l : List α} (hi : mi ρ = some (l.map e)) (hl : l.length ≤ sizeLine) (h : ∀ a ∈ l, turnD g mt me (wipeF ρ vs) (e a) = some (some (o a))) : mLc mi vs g mt me ρ = some (l.map o) := by
  rw [mLc_fm (o := fun a => some (o a)) hi hl h]
  rw [show (fun a => some (o a)) = some ∘ o from rfl, List.filterMap_eq_map]
theorem putD_new {ks : List (Key × D)} {k : Key} {d : D} (h : k ∉ ks.map (·.1)) : putD ks k d = ks ++ [(k, d)] := by
  unfold putD
  rw [if_neg]
  intro z
  obtain ⟨p, hp, e⟩ := List.any_eq_true.mp z
  exact h (List.mem_map.mpr ⟨p, hp, of_decide_eq_true e⟩)
theorem compK_fm {α : Type} {f : D → Option (Option (Key × D))} {e : α → D} {o : α → Option (Key × D)} : ∀ {l : List α} {acc : List (Key × D)}, (∀ a ∈ l, f (e a) = some (o a)) → ((acc ++ l.filterMap o).map (·.1)).Nodup → compK f (l.map e) acc = some (acc ++ l.filterMap o)
  | [], acc, _, _ => by simp [compK]
  | a :: l, acc, h, hn => by
    rw [List.map_cons]
    unfold compK
    rw [h a List.mem_cons_self, Option.bind_some]
    rw [List.filterMap_cons] at hn ⊢
    cases q : o a with
    | none =>
      rw [q] at hn
      exact compK_fm (fun b hb => h b (List.mem_cons_of_mem _ hb)) hn
    | some p =>
      obtain ⟨k, d⟩ := p
      rw [q] at hn
      have hn' : ((acc ++ (k, d) :: l.filterMap o).map (·.1)).Nodup := hn
      have nk : k ∉ acc.map (·.1) := by
        intro z
        rw [List.map_append, List.nodup_append] at hn'
        exact hn'.2.2 k z k (by simp) rfl
      show compK f (l.map e) (putD acc k d) = _
      rw [putD_new nk, compK_fm (fun b hb => h b (List.mem_cons_of_mem _ hb)) (by rw [List.append_assoc]; exact hn'), List.append_assoc]
      rfl
theorem mDc_fm {α : Type} {mi : M (List D)} {vs : List Nat} {g : D → Fr → Option Fr} {mt : M Bool} {mk mv : M D} {ρ : Fr} {e : α → D} {o : α → Option (Key × D)} {l : List α} (hi : mi ρ = some (l.map e)) (hl : l.length ≤ sizeLine) (h : ∀ a ∈ l, turnK g mt mk mv (wipeF ρ vs) (e a) = some (o a))
    (hn : ((l.filterMap o).map (·.1)).Nodup) : mDc mi vs g mt mk mv ρ = some (dictD (l.filterMap o)) := by
  unfold mDc
  rw [hi, Option.bind_some, if_pos (by rw [List.length_map]; exact hl), compK_fm h (by simpa using hn)]
  rfl
theorem dGetV_dictD {ks : List (Key × D)} {k : Key} : dGetV (ks.map fun p => (kD p.1, p.2)) k = (ks.find? fun p => decide (p.1 = k)).map (·.2) := by
  unfold dGetV
  rw [List.find?_map, Option.map_map]
  congr 1
  congr 1
  funext p
  simp [keyOf_kD]
theorem sortK_pwR {α : Type} {R : Int × α → Int × α → Prop} : ∀ {l : List (Int × α)}, l.Pairwise R → (sortK l).Pairwise fun p q => p.1 < q.1 ∨ (p.1 = q.1 ∧ R p q)
  | [], _ => List.Pairwise.nil
  | p :: l, h => by
    have hc := List.pairwise_cons.mp h
    have ih := sortK_pwR hc.2
    have key : ∀ {m : List (Int × α)}, (∀ q ∈ m, R p q) → m.Pairwise (fun x y => x.1 ≤ y.1) → m.Pairwise (fun p q => p.1 < q.1 ∨ (p.1 = q.1 ∧ R p q)) → (insK p m).Pairwise fun p q => p.1 < q.1 ∨ (p.1 = q.1 ∧ R p q) := by
      intro m
      induction m with
      | nil => intro _ _ _; unfold insK; simp
      | cons q r ih2 =>
        intro hR hs hp
        unfold insK
        have hs' := List.pairwise_cons.mp hs
        have hp' := List.pairwise_cons.mp hp
        split
        · rename_i hpq
          refine List.pairwise_cons.mpr ⟨fun x hx => ?_, hp⟩
          have hx1 : p.1 ≤ x.1 := by
            rcases List.mem_cons.mp hx with rfl | hx
            · exact hpq
            · exact Int.le_trans hpq (hs'.1 x hx)
          rcases Int.lt_or_eq_of_le hx1 with hlt | heq
          · exact .inl hlt
          · exact .inr ⟨heq, hR x hx⟩
        · rename_i hpq
          refine List.pairwise_cons.mpr ⟨fun x hx => ?_, ih2 (fun q hq => hR q (List.mem_cons_of_mem _ hq)) hs'.2 hp'.2⟩
          rcases insK_mem hx with rfl | hx
          · exact .inl (by omega)
          · exact hp'.1 x hx
    exact key (fun q hq => hc.1 q ((sortK_perm l).mem_iff.mp hq)) (sortK_pw l) ih
end Pd

namespace Pd
open PySem PySem.Spec PyProof.Rows L2
/-! ### the caught error: isinstance, and a def that gets it -/
theorem call_isP {X : Cx} {a D : Addr} {oe : Obj} (hp : (a, oe) ∈ X.pn) (C : ExcC X.K D) (hz : Zc (.ref D) none oe) (hf : ∃ vs, oe.data = Data.fields vs) : CallR X (.builtin "isinstance") (rIsE X.K D a) := by
  intro pins s σ H xs us Q I rv q
  obtain ⟨c, cv, b, rfl, hc, hk, q⟩ := q
  obtain ⟨u1, u2, rfl, r1, r2⟩ : ∃ u1 u2, us = [u1, u2] ∧ L2.RelV (.ref a) u1 ∧ L2.RelV c u2 := by
    cases rv with
    | cons h1 r =>
      cases r with
      | cons h2 r => cases r; exact ⟨_, _, rfl, h1, h2⟩
  have e1 : u1 = Value.ref a := r1
  have e2 := hc u2 r2
  subst e1 e2
  obtain ⟨g1, g2, _⟩ := I.pin (a, oe) (List.mem_append_left _ hp)
  obtain ⟨vs, hvs⟩ := hf
  refine PySem.W.kia_one (PySem.W.handS_kitx_exc (ox := oe) C.hg C.hk C.hs C.hd C.ha C.hn C.ht C.hm) I.kIn ⟨g1, hz.1, ?_, ?_⟩ hk (by intro z; cases z) fun tk => ⟨.bl b, H, I.tok tk, rfl, q⟩
  · unfold PySem.W.notCls
    rw [hvs]
  · rw [hz.2]
    trivial
structure FnP (P : Program) (w : World) (K : PySem.W.Frag) (mg : Str → Option Value) (base : Heap) (k : Nat) (f : Addr) (fd : FuncData) (ps : List Str) (D : Addr) (sp : Addr → List V → Hp → VK → Prop) : Prop where
  run : ∀ (A : Around) (outer : List Env) (s : Shared) (H : Hp) (args : Args) (us : List Value) (vs : List V) (Q : VK) (p : Addr × Obj), L2H.RoomH k A → L2H.Hot1 A p → Zc (.ref D) none p.2 → L2H.PinOk outer H s p → Env0 P w K mg base A outer s H →
    BindsTo s fd args (ps.zip us) → Vals vs us → vs.length = ps.length → sp p.1 vs H Q → codeAny (model P w) A (Code.call (Value.ref f) args) (CR CX0 outer P w H s Q E0) s
theorem fn_ofP {P : Program} {w : World} {K : PySem.W.Frag} {mg : Str → Option Value} {base : Heap} {k : Nat} {x qual : Str} {st : Stmt} {f D : Addr} {fd : FuncData} {N ps : List Str} {sp : Addr → List V → Hp → VK → Prop} (F : Fun K x qual st f fd) (S : FnScope N ps (defScope st))
    (hb : ∀ (cdv : Value) (A : Around) (outer : List Env) (s : Shared) (H : Hp) (vs : List V) (Q : VK) (p : Addr × Obj), L2H.Hot1 A p → Zc (.ref D) none p.2 → L2H.RoomH k (A.deeper (envOfC qual (defScope st) s.heap.objs.size f cdv)) → sp p.1 vs H Q →
      ∃ t, PSs (L2H.cxH CX0 P w K mg base N qual (defScope st) f cdv A outer s H E0 p) (defBody st) t ∧ t { nx := fun _ H' => Q V.non H', rt := Q } (L2.start N vs) H) : FnP P w K mg base (k + 1) f fd ps D sp := by
  obtain ⟨⟨oc, od, kV, doc, pm, an, cdv, ct, osl, e1, e2, e3⟩, kp⟩ := F
  subst e1
  constructor
  intro A outer s H args us vs Q p hr hh hz hp e0 hbd rv hl hs
  have hin : K.In s.heap := fun a o e => (e0.bs a o (e0.mod.kin a o e)).1
  have hnl : s.heap.NoLimit := by
    obtain ⟨mc, ⟨no, es, ep, n1, n2⟩, n3⟩ := e0.mod.nolimit
    exact ⟨mc, ⟨no, es, ep, (e0.bs _ _ n1).1, n2⟩, n3⟩
  have hr' : L2H.RoomH k (A.deeper (envOfC qual (defScope st) s.heap.objs.size f cdv)) := ⟨by have := hr.dp; show A.depth + 1 + 3 * k + 5 < _; omega, by have := hr.un; show A.units + 3 + 16 * k + 200 < _; omega⟩
  refine Att.call_fn hin hnl e2 e3 (by have := hr.dp; omega) hbd ?_ (fun s1 hin1 => ?_) S.co S.gen S.kind
  · rw [List.all_eq_true]
    intro y hy
    have hy1 : y.1 ∈ ps := (List.of_mem_zip hy).1
    rcases S.par y.1 hy1 with h | h <;> rw [h] <;> rfl
  · obtain ⟨t, pt, ht⟩ := hb cdv A outer s H vs Q p hh hz hr' hs
    have I := L2H.inv_startH (CX := CX0) (E := E0) S hp e0 hl rv hin1
    refine wpAny_mono (pt.run [] s1 (L2.start N vs) H _ I ht) (fun fl s' z => ?_) (fun e s' z => z)
    cases fl with
    | next =>
      obtain ⟨σ', H', I', q⟩ := z
      exact ⟨.non, H', I'.os, I'.bare, I'.base, I'.hok, rfl, q⟩
    | brk =>
      obtain ⟨σ', H', I', q⟩ := z
      exact q.elim
    | cont =>
      obtain ⟨σ', H', I', q⟩ := z
      exact q.elim
    | ret u =>
      obtain ⟨v, σ', H', I', r, q⟩ := z
      exact ⟨v, H', I'.os, I'.bare, I'.base, I'.hok, r, q⟩
def tCallP (sp : Addr → List V → Hp → VK → Prop) (a : Addr) (t : TA) : TE := fun σ H Q => t σ H fun vs H1 => sp a vs H1 Q
theorem pe_callP {X : Cx} {k : Nat} {f a D : Addr} {oe : Obj} {fd : FuncData} {ps : List Str} {sp : Addr → List V → Hp → VK → Prop} {x : Str} {q pos : Pos} {e : Expr} {es : List Expr} {t : TA} (hp : (a, oe) ∈ X.pn) (hh : L2H.Hot1 X.A (a, oe)) (hz : Zc (.ref D) none oe) (hlen : ∀ a vs H Q, sp a vs H Q → vs.length = ps.length)
    (G : FnP X.prog X.w X.K X.mg X.base k f fd ps D sp) {st : Stmt} {qual y : Str} (F : Fun X.K y qual st f fd) (hr : L2H.RoomH k X.A) (hg : Gl X x) (hm : X.mg x = some (.ref f)) (hb : L2.Binds X.K fd ps []) (ha : PA X (e :: es) t)
    (hdb : (x == ("__debug__" : Str)) = false := by decide) (he : starEach (e :: es) X.env = (false, eval e X.env) :: starEach es X.env := by rfl) : PE X (.Call (.Name x q) (e :: es) [] pos) (tCallP sp a t) := by
  constructor
  intro pins s σ H Q I qq
  refine wpAny_Call_NameR (ld_glob I hg hm ?_ hdb)
  obtain ⟨oc, od, kV, doc, pm, an, cdv, ct, osl, e1, e2, e3⟩ := F.ex
  refine callWith_def_at (h' := s.heap) (I.kIn f _ e2) rfl ?_ he
  refine wpAny_mono (ha.run pos pins s σ H _ I qq) ?_ fun _ _ z => z
  rintro us s1 ⟨vs, H1, I1, rv, hs⟩
  refine ⟨I1.kIn f _ e2, wpAny_call ?_⟩
  have hl := hlen _ _ _ _ hs
  have pin : L2H.PinOk X.stack H1 s1 (a, oe) := by
    obtain ⟨g1, g2, g3, g4, g5⟩ := I1.pin (a, oe) (List.mem_append_left _ hp)
    refine ⟨g1, g2, ?_, g5⟩
    rcases I1.ok.stk with h | ⟨h, h'⟩
    · rw [h]; exact g4
    · rw [h]
      unfold L2.frs
      rw [List.filterMap_cons, h']
      intro z
      rcases List.mem_cons.mp z with z | z
      · exact g3 z
      · exact g4 z
  have hbd := hb s1 us I1.kIn (by rw [List.append_nil, ← paired_len rv]; exact hl)
  rw [List.append_nil] at hbd
  refine codeAny_mono (G.run X.A X.stack s1 H1 _ us vs Q (a, oe) hr hh hz pin I1.env0 hbd rv hl hs) fun r s' z => ?_
  cases r with
  | ok fl =>
    cases fl with
    | ret u =>
      obtain ⟨v, H', o1, o2, o3, o4, o5, o6⟩ := z
      exact ⟨v, H', I1.call' (ch := []) o1 o3 o4 o2 (fun b hb => by cases hb), o5, o6⟩
    | next => exact z.elim
    | brk => exact z.elim
    | cont => exact z.elim
  | error e => exact z.elim
end Pd

namespace Pd
open PySem PySem.Spec PyProof.Rows L2
/-! ### defs that may raise -/
inductive Res where
  | val (d : D)
  | exc (n : Str)
def runX (np nl : Nat) (m : M Out) (ds : List D) : Option Res := if ds.length = np then (m (startF nl ds)).bind fun o => match o with
  | .rt d => some (.val d)
  | .nx _ => some (.val .none)
  | .ex n _ => some (.exc n)
  | _ => none
  else none
/-- a def that makes data of data, or raises; cl: the class of a name -/
def spX (T : List (Addr × Str)) (K : PySem.W.Frag) (cl : Str → Addr) (g : List D → Option Res) : Sp := fun vs H Q E => ∃ (F : Hp) (ds : List D) (r : Res), Sub T F H ∧ RpAll K F vs ds ∧ g ds = some r ∧
  (∀ d, r = .val d → ∀ v F' H', Grow T F H F' H' → Rp K F' v d → Q v H') ∧ (∀ n, r = .exc n → ∀ F' H', Grow T F H F' H' → E (.ref (cl n)) none H')
theorem takesN_imp {X : Cx} {W W' : WX} (h : L2N.Takes X W) (i : ∀ c d σ H, W' c d σ H → W c d σ H) : L2N.Takes X W' := fun u s' ⟨a, B, sI, pins, σ, H, cls, d, h1, h2, h3, h4, h5, h6, h7, h8, h9⟩ =>
  h u s' ⟨a, B, sI, pins, σ, H, cls, d, h1, h2, h3, h4, h5, h6, h7, h8, i _ _ _ _ h9⟩
theorem passN {X : Cx} : Passes (L2N.CX X.prog X.w) X E0 := by
  intro pins σ H s e s' _ h
  obtain ⟨a, B, H', cls, d, _, _, _, _, _, _, _, z⟩ := h
  exact z.elim
/-- the wish by names as a wish by classes -/
def WU (cl : Str → Addr) (W : WN) : WX := fun cls d σ H => ∃ n, cls = .ref (cl n) ∧ d = none ∧ W n σ H
section
variable {P : Program} {w : World} {T : List (Addr × Str)} {K : PySem.W.Frag} {mg : Str → Option Value} {base : Heap} {cl : Str → Addr}
theorem fnX {x qual : Str} {st : Stmt} {f : Addr} {fd : FuncData} {N ps : List Str} {k : Nat} {m : M Out} (F : Fun K x qual st f fd) (S : FnScope N ps (defScope st))
    (hb : ∀ (cdv : Value) (A : Around) (outer : List Env) (s : Shared) (H : Hp) (E : XK), Room k (A.deeper (envOfC qual (defScope st) s.heap.objs.size f cdv)) →
      L2N.Takes (cxOf (L2N.CX P w) P w K mg base N qual (defScope st) f cdv A outer s H E) (WU cl fun n _ H' => E (.ref (cl n)) none H') →
      XSs (fun _ : Unit => (cxOf (L2N.CX P w) P w K mg base N qual (defScope st) f cdv A outer s H E)) T K (fun n _ H' => E (.ref (cl n)) none H') (defBody st) m) :
    FnOk P w K mg base (L2N.CX P w) (k + 1) f fd ps (spX T K cl (runX ps.length N.length m)) := by
  obtain ⟨⟨oc, od, kV, doc, pm, an, cdv, ct, osl, e1, e2, e3⟩, kp⟩ := F
  subst e1
  refine L2.fn_of (CX := L2N.CX P w) e2 e3 S (fun vs H Q E h => ?_) (fun A outer s H vs Q E hr h => ?_)
  · obtain ⟨F0, ds, d, s0, r, e, _⟩ := h
    unfold runX at e
    split at e
    · rename_i hz
      rw [r.length]; exact hz
    · cases e
  · obtain ⟨F0, ds, d, s0, r, e, q1, q2⟩ := h
    have tk : L2N.Takes (cxOf (L2N.CX P w) P w K mg base N qual (defScope st) f cdv A outer s H E) (WU cl fun n _ H' => E (.ref (cl n)) none H') :=
      takesN_imp (L2N.takes_of (E := E) rfl rfl rfl rfl) fun c d σ H' ⟨n, e1, e2, h⟩ => by subst e1 e2; exact h
    obtain ⟨t, p, l⟩ := hb cdv A outer s H E hr tk
    refine ⟨t, p (), ?_⟩
    unfold runX at e
    split at e
    · obtain ⟨o, e1, e2⟩ := Option.bind_eq_some_iff.mp e
      refine l F0 H _ F0 H _ o _ (start_state s0 r) e1 ?_
      cases o with
      | rt d' => cases e2; exact fun v F1 H1 g1 r1 => q1 _ rfl v F1 H1 g1 r1
      | nx ρ => cases e2; exact fun σ F1 H1 S1 _ => q1 _ rfl .non F1 H1 S1.g .non
      | bk ρ => cases e2
      | ct ρ => cases e2
      | ex n ρ => cases e2; exact fun σ F1 H1 S1 _ => q2 n rfl F1 H1 S1.g
    · cases e
end
section
variable {ι : Type} {T : List (Addr × Str)} {K : PySem.W.Frag} {W : WN} {X : ι → Cx} {cl : Str → Addr}
theorem xs_raise (n : Str) {bmB : List Value} {B newId initId : String} {x m : Str} {j : Nat} {p p2 pos pos' : Pos} (tk : ∀ i, L2N.Takes (X i) (WU cl W)) (Fb : ExcBaseFacts B newId initId bmB) (q : PySem.W.excIn K (cl n) bmB newId = true) (gC : ∀ i, (X i).mg x = some (.ref (cl n))) (kC : PySem.W.keepIn K (.ref (cl n)) = true)
    (sC : PySem.W.subIn K (.ref (cl n)) (.type "BaseException") = some true) (tC : PySem.W.typeIn K (.ref (cl n)) = some (.type "type")) (hc : ∀ i, (X i).calm = true := by intro _; rfl) (hg : ∀ i, Gl (X i) x := by intro _; rfl) (hd : (x == ("__debug__" : Str)) = false := by decide) (k : ∀ i0, (X i0).K = K := by intro _; rfl) :
    XS X T K W (.Raise (some (.Call (.Name x p) [.Constant (.str m) j p2] [] pos)) none pos') (fun ρ => some (.ex n ρ)) := by
  refine ⟨fun _ σ H => WU cl W (.ref (cl n)) none σ H, fun i => ?_, ?_⟩
  · have e := k i
    subst e
    exact L2N.ps_raise (hc i) (tk i) (L2N.pmk_own Fb q (gC i) kC (raises_own sC tC) (hg i) hd)
  · intro F0 H0 σ F H ρ o De S h Q
    cases h
    exact ⟨n, rfl, rfl, Q σ F H S (Same.refl _)⟩
/-- expressions that may raise -/
def EX (T : List (Addr × Str)) (K : PySem.W.Frag) (W : WN) (te : TE) (m : M Res) : Prop := ∀ (F0 H0 : Hp) (σ : St) (F H : Hp) (ρ : Fr) (r : Res), State T K F0 H0 σ F H ρ → m ρ = some r →
  ∀ Q : VK, (∀ d, r = .val d → ∀ v F' H', Grow T F H F' H' → Rp K F' v d → Q v H') → (∀ n, r = .exc n → ∀ F' H', Grow T F H F' H' → W n σ H') → te σ H Q
def XDX {ι : Type} (X : ι → Cx) (T : List (Addr × Str)) (K : PySem.W.Frag) (W : WN) (e : Expr) (m : M Res) : Prop := ∃ t, (∀ i, PE (X i) e t) ∧ EX T K W t m
def mAX (g : List D → Option Res) (a : M (List D)) : M Res := fun ρ => (a ρ).bind g
theorem xdx_call {j : Nat} {f : Addr} {fd : FuncData} {ps : List Str} {g : List D → Option Res} {x : Str} {e : Expr} {es : List Expr} {m : M (List D)} {p pos : Pos} (tk : ∀ i, L2N.Takes (X i) (WU cl W)) (G : ∀ i0, FnOk (X i0).prog (X i0).w K (X i0).mg (X i0).base (L2N.CX (X i0).prog (X i0).w) j f fd ps (spX T K cl g)) (hr : ∀ i0, Room j (X i0).A) (hm : ∀ i0, (X i0).mg x = some (.ref f)) (hk : PySem.W.keepIn K (.ref f) = true) (hb : Binds K fd ps [])
    (ha : XA X T K (e :: es) m) (hg : ∀ i0, Gl (X i0) x := by intro _; rfl) (hdb : (x == ("__debug__" : Str)) = false := by decide) (he : ∀ i0, starEach (e :: es) (X i0).env = (false, eval e (X i0).env) :: starEach es (X i0).env := by intro _; rfl) (hpl : ∀ i0, (backTo pos (starEach es (X i0).env)).any (·.1) = false := by intro _; rfl) (k : ∀ i0, (X i0).K = K := by intro _; rfl) :
    XDX X T K W (.Call (.Name x p) (e :: es) [] pos) (mAX g m) := by
  obtain ⟨t, p1, l⟩ := ha
  refine ⟨tCallS (spX T K cl g) (WE (WU cl W)) t, fun i0 => by have e := k i0; subst e; exact pe_callS (G i0) (hr i0) (hg i0) (hm i0) hk hb (L2N.passAt (tk i0)) (p1 i0) hdb (he i0) (hpl i0), ?_⟩
  intro F0 H0 σ F H ρ r S h Q q1 q2
  unfold mAX at h
  obtain ⟨xs, e1, h⟩ := Option.bind_eq_some_iff.mp h
  refine l F0 H0 σ F H ρ xs S e1 _ fun vs F1 H1 g1 r1 => ?_
  exact ⟨F1, xs, r, g1.s, r1, h, fun d e v F2 H2 g2 r2 => q1 d e v F2 H2 (g1.trans g2) r2, fun n e F2 H2 g2 => ⟨n, rfl, rfl, q2 n e F2 H2 (g1.trans g2)⟩⟩
/-- a def that may raise, where it doesn't -/
def mVal (g : List D → Option Res) : List D → Option D := fun ds => (g ds).bind fun r => match r with
  | .val d => some d
  | .exc _ => none
theorem xd_callV {j : Nat} {f : Addr} {fd : FuncData} {ps : List Str} {g : List D → Option Res} {x : Str} {e : Expr} {es : List Expr} {m : M (List D)} {p pos : Pos} (G : ∀ i0, FnOk (X i0).prog (X i0).w K (X i0).mg (X i0).base (L2N.CX (X i0).prog (X i0).w) j f fd ps (spX T K cl g)) (hr : ∀ i0, Room j (X i0).A) (hm : ∀ i0, (X i0).mg x = some (.ref f)) (hk : PySem.W.keepIn K (.ref f) = true) (hb : Binds K fd ps [])
    (ha : XA X T K (e :: es) m) (hg : ∀ i0, Gl (X i0) x := by intro _; rfl) (hdb : (x == ("__debug__" : Str)) = false := by decide) (he : ∀ i0, starEach (e :: es) (X i0).env = (false, eval e (X i0).env) :: starEach es (X i0).env := by intro _; rfl) (hpl : ∀ i0, (backTo pos (starEach es (X i0).env)).any (·.1) = false := by intro _; rfl) (k : ∀ i0, (X i0).K = K := by intro _; rfl) :
    XD X T K (.Call (.Name x p) (e :: es) [] pos) (mA (mVal g) m) := by
  obtain ⟨t, p1, l⟩ := ha
  refine ⟨tCall (spX T K cl g) [] E0 t, fun i0 => by have e := k i0; subst e; exact pe_call (G i0) (hr i0) (hg i0) (hm i0) hk hb .nil passN (p1 i0) hdb (he i0) (hpl i0), ?_⟩
  intro F0 H0 σ F H ρ d S h Q q
  unfold mA at h
  obtain ⟨xs, e1, h⟩ := Option.bind_eq_some_iff.mp h
  unfold mVal at h
  obtain ⟨r, e2, h⟩ := Option.bind_eq_some_iff.mp h
  refine l F0 H0 σ F H ρ xs S e1 _ fun vs F1 H1 g1 r1 => ?_
  cases r with
  | val d' =>
    cases h
    exact ⟨F1, xs, .val d, g1.s, by rw [List.append_nil]; exact r1, e2, fun d e v F2 H2 g2 r2 => by cases e; exact q v F2 H2 (g1.trans g2) r2, fun n e => by cases e⟩
  | exc n => cases h
def mRetX (a : M Res) : M Out := fun ρ => (a ρ).bind fun r => match r with
  | .val d => some (.rt d)
  | .exc n => some (.ex n ρ)
def mExprX (a : M Res) : M Out := fun ρ => (a ρ).bind fun r => match r with
  | .val _ => some (.nx ρ)
  | .exc n => some (.ex n ρ)
theorem xs_retX {e : Expr} {a : M Res} {pos : Pos} (ha : XDX X T K W e a) : XS X T K W (.Return (some e) pos) (mRetX a) := by
  obtain ⟨t, p, l⟩ := ha
  refine ⟨_, fun i => ps_ret (p i), ?_⟩
  intro F0 H0 σ F H ρ o De S h Q
  unfold mRetX at h
  obtain ⟨r, e1, h⟩ := Option.bind_eq_some_iff.mp h
  refine l F0 H0 σ F H ρ r S e1 _ (fun d e v F1 H1 g1 r1 => ?_) (fun n e F1 H1 g1 => ?_)
  · subst e
    cases h
    exact Q v F1 H1 (S.g.trans g1) r1
  · subst e
    cases h
    exact Q σ F1 H1 (S.grow g1) g1.f
theorem xs_exprX {e : Expr} {a : M Res} {pos : Pos} (ha : XDX X T K W e a) (hs : ∀ i0, swapsWith e none pos.line (X i0).env = pure false := by intro _; rfl) : XS X T K W (.Expr e pos) (mExprX a) := by
  obtain ⟨t, p, l⟩ := ha
  refine ⟨tDrop t, fun i => ps_expr (p i) (hs i), ?_⟩
  intro F0 H0 σ F H ρ o De S h Q
  unfold mExprX at h
  obtain ⟨r, e1, h⟩ := Option.bind_eq_some_iff.mp h
  refine l F0 H0 σ F H ρ r S e1 _ (fun d e v F1 H1 g1 r1 => ?_) (fun n e F1 H1 g1 => ?_)
  · subst e
    cases h
    exact Q σ F1 H1 (S.grow g1) g1.f
  · subst e
    cases h
    exact Q σ F1 H1 (S.grow g1) g1.f
end
end Pd

namespace Pd
open PySem PySem.Spec PyProof.Rows L2
/-! ### the caught error in a slot; try .. except C as e -/
/-- the context holds the caught error: its class D -/
def Caught (X : Cx) (a D : Addr) : Prop := ∃ oe, (a, oe) ∈ X.pn ∧ Zc (.ref D) none oe ∧ (∃ vs, oe.data = Data.fields vs) ∧ L2H.Hot1 X.A (a, oe)
def mIs (a : Addr) (i : Nat) (b : Bool) : M D := fun ρ => match ρ[i]? with
  | some (.raw a') => if a' = a then some (.bool b) else none
  | _ => none
section
variable {ι : Type} {T : List (Addr × Str)} {K : PySem.W.Frag} {W : WN} {X : ι → Cx}
theorem xd_isE {a D : Addr} {b : Bool} (i : Nat) {c : V} {cv : Value} {x : Str} {e2 : Expr} {p px pos : Pos} (hX : ∀ i0, Caught (X i0) a D) (C : ExcC K D) (hk : PySem.W.kitOne K (.ref D) cv = some b) (hcv : ∀ u, L2.RelV c u → u = cv) (h2 : ∀ i0, PE (X i0) e2 (tC c)) (hm : ∀ i0, (X i0).mg "isinstance" = none)
    (hN : ∀ i0, (X i0).N[i]? = some x := by intro _; rfl) (hv : ∀ i0, Vis (X i0).env.scope x := by intro _; first | exact Or.inl rfl | exact Or.inr (Or.inl rfl) | exact Or.inr (Or.inr rfl)) (hd : (x == ("__debug__" : Str)) = false := by decide) (hcd : (x == ("__classdict__" : Str)) = false := by decide) (hg : ∀ i0, Gl (X i0) "isinstance" := by intro _; rfl)
    (he2 : ∀ i0, starEach [e2] (X i0).env = (false, eval e2 (X i0).env) :: starEach [] (X i0).env := by intro _; rfl) (he : ∀ i0, starEach [.Name x px, e2] (X i0).env = (false, eval (.Name x px) (X i0).env) :: starEach [e2] (X i0).env := by intro _; rfl) (hpl : ∀ i0, (backTo pos (starEach [e2] (X i0).env)).any (·.1) = false := by intro _; rfl) (k : ∀ i0, (X i0).K = K := by intro _; rfl) :
    XD X T K (.Call (.Name "isinstance" p) [.Name x px, e2] [] pos) (mIs a i b) := by
  refine ⟨tCB (rIsE K D a) (tCons (tVar i) (tCons (tC c) tNil)), fun i0 => ?_, ?_⟩
  · have e := k i0
    subst e
    obtain ⟨oe, h1, h3, h4, _⟩ := hX i0
    exact pe_callB (call_isP h1 C h3 h4) (hg i0) (hm i0) (by decide +kernel) (pa_cons (pe_var (hN i0) (hv i0) hd hcd) (pa_cons (h2 i0) pa_nil (he2 i0)) (he i0)) (by decide) (by decide) (he i0) (hpl i0)
  · intro F0 H0 σ F H ρ d S h Q q
    unfold mIs at h
    split at h
    · rename_i a' hi
      split at h
      · rename_i e
        cases h
        subst e
        exact ⟨_, S.raw i _ hi, c, cv, b, rfl, hcv, hk, q _ F H (Grow.refl S.s) (.bl b)⟩
      · cases h
    · cases h
end
/-- a def that gets the caught error alone -/
def startR (nl : Nat) (a : Addr) : Fr := .raw a :: List.replicate (nl - 1) .no
def spP (T : List (Addr × Str)) (K : PySem.W.Frag) (nl : Nat) (m : Addr → M Out) : Addr → List V → Hp → VK → Prop := fun a vs H Q => ∃ (F : Hp) (d : D), vs = [.ref a] ∧ Sub T F H ∧ m a (startR nl a) = some (.rt d) ∧ ∀ v F' H', Grow T F H F' H' → Rp K F' v d → Q v H'
theorem startR_state {T : List (Addr × Str)} {K : PySem.W.Frag} {F H : Hp} {N : List Str} {a : Addr} (s : Sub T F H) (hn : 0 < N.length) : State T K F H (L2.start N [.ref a]) F H (startR N.length a) where
  g := Grow.refl s
  ln := by
    unfold startR L2.start
    simp only [List.length_cons, List.length_replicate, List.length_append, List.length_map, List.length_nil]
    omega
  va := fun i d h => by
    unfold startR at h
    cases i with
    | zero => cases h
    | succ i =>
      rw [List.getElem?_cons_succ, List.getElem?_replicate] at h
      split at h <;> cases h
  ow := fun i ds h => by
    unfold startR at h
    cases i with
    | zero => cases h
    | succ i =>
      rw [List.getElem?_cons_succ, List.getElem?_replicate] at h
      split at h <;> cases h
  dj := fun i j ds es c b h => by
    unfold startR at h
    cases i with
    | zero => cases h
    | succ i =>
      rw [List.getElem?_cons_succ, List.getElem?_replicate] at h
      split at h <;> cases h
  raw := fun i c h => by
    unfold startR at h
    cases i with
    | zero => cases h; rfl
    | succ i =>
      rw [List.getElem?_cons_succ, List.getElem?_replicate] at h
      split at h <;> cases h
section
variable {P : Program} {w : World} {T : List (Addr × Str)} {K : PySem.W.Frag} {mg : Str → Option Value} {base : Heap}
theorem fnPD {x qual y : Str} {st : Stmt} {f D : Addr} {fd : FuncData} {N : List Str} {k : Nat} {m : Addr → M Out} (F : Fun K x qual st f fd) (S : FnScope N [y] (defScope st)) (hn : 0 < N.length)
    (hb : ∀ (cdv : Value) (A : Around) (outer : List Env) (s : Shared) (H : Hp) (p : Addr × Obj), L2H.RoomH k (A.deeper (envOfC qual (defScope st) s.heap.objs.size f cdv)) → Caught (L2H.cxH CX0 P w K mg base N qual (defScope st) f cdv A outer s H E0 p) p.1 D →
      XSs (fun _ : Unit => L2H.cxH CX0 P w K mg base N qual (defScope st) f cdv A outer s H E0 p) T K W0 (defBody st) (m p.1)) :
    FnP P w K mg base (k + 1) f fd [y] D (spP T K N.length m) := by
  refine fn_ofP F S fun cdv A outer s H vs Q p hh hz hr h => ?_
  obtain ⟨F0, d, e, s0, e1, q⟩ := h
  subst e
  have hc : Caught (L2H.cxH CX0 P w K mg base N qual (defScope st) f cdv A outer s H E0 p) p.1 D := ⟨p.2, List.mem_singleton.mpr rfl, hz, hh.2.imp fun vs h => h.1, hh⟩
  obtain ⟨t, pt, l⟩ := hb cdv A outer s H p hr hc
  refine ⟨t, pt (), ?_⟩
  refine l F0 H _ F0 H _ _ _ (startR_state s0 hn) e1 ?_
  exact fun v F1 H1 g1 r1 => q v F1 H1 g1 r1
end
def mP (nl : Nat) (m : Addr → M Out) (a : Addr) (i : Nat) : M D := fun ρ => match ρ[i]? with
  | some (.raw a') => if a' = a then (m a (startR nl a)).bind fun o => match o with
    | .rt d => some d
    | _ => none
    else none
  | _ => none
section
variable {ι : Type} {T : List (Addr × Str)} {K : PySem.W.Frag} {W : WN} {X : ι → Cx}
theorem xd_callP {a D : Addr} {nl k : Nat} {m : Addr → M Out} (i : Nat) {f : Addr} {fd : FuncData} {st : Stmt} {x y z : Str} {q px pos : Pos} (hX : ∀ i0, Caught (X i0) a D) (G : ∀ i0, FnP (X i0).prog (X i0).w K (X i0).mg (X i0).base k f fd [y] D (spP T K nl m)) (F : Fun K z z st f fd) (hr : ∀ i0, L2H.RoomH k (X i0).A)
    (hm : ∀ i0, (X i0).mg x = some (.ref f)) (hb : Binds K fd [y] []) {v : Str} (hN : ∀ i0, (X i0).N[i]? = some v := by intro _; rfl) (hv : ∀ i0, Vis (X i0).env.scope v := by intro _; first | exact Or.inl rfl | exact Or.inr (Or.inl rfl) | exact Or.inr (Or.inr rfl)) (hd : (v == ("__debug__" : Str)) = false := by decide) (hcd : (v == ("__classdict__" : Str)) = false := by decide)
    (hg : ∀ i0, Gl (X i0) x := by intro _; rfl) (hdb : (x == ("__debug__" : Str)) = false := by decide) (he : ∀ i0, starEach [.Name v px] (X i0).env = (false, eval (.Name v px) (X i0).env) :: starEach [] (X i0).env := by intro _; rfl) (k0 : ∀ i0, (X i0).K = K := by intro _; rfl) :
    XD X T K (.Call (.Name x q) [.Name v px] [] pos) (mP nl m a i) := by
  refine ⟨tCallP (spP T K nl m) a (tCons (tVar i) tNil), fun i0 => ?_, ?_⟩
  · have e := k0 i0
    subst e
    obtain ⟨oe, h1, h3, h4, h5⟩ := hX i0
    exact pe_callP h1 h5 h3 (fun a vs H Q h => by obtain ⟨F, d, e, _⟩ := h; rw [e]; rfl) (G i0) F (hr i0) (hg i0) (hm i0) hb (pa_cons (pe_var (hN i0) (hv i0) hd hcd) pa_nil (he i0)) hdb (he i0)
  · intro F0 H0 σ F H ρ d S h Q q
    unfold mP at h
    split at h
    · rename_i a' hi
      split at h
      · rename_i e
        subst e
        obtain ⟨o, e1, h⟩ := Option.bind_eq_some_iff.mp h
        split at h
        · cases h
          exact ⟨_, S.raw i _ hi, F, d, rfl, S.s, e1, q⟩
        · cases h
      · cases h
    · cases h
end
open Classical in
noncomputable def anyRt (p : D → Prop) : Option Out := if h : ∃ d, p d then some (.rt (Classical.choose h)) else none
theorem anyRt_some {p : D → Prop} {o : Out} (h : anyRt p = some o) : ∃ d, o = .rt d ∧ p d := by
  unfold anyRt at h
  split at h
  · rename_i hd
    cases h
    exact ⟨_, rfl, Classical.choose_spec hd⟩
  · cases h
theorem anyRt_of {p : D → Prop} {d : D} (h : p d) (u : ∀ e, p e → e = d) : anyRt p = some (.rt d) := by
  have hd : ∃ d, p d := ⟨d, h⟩
  unfold anyRt
  rw [dif_pos hd, u _ (Classical.choose_spec hd)]
/-- try: body / except C as e: .. return ..: the suite must return, whatever the error's address -/
noncomputable def mTry (mb : M Out) (i : Nat) (ct : Str → Option Bool) (mh : Addr → Str → M Out) : M Out := fun ρ => (mb ρ).bind fun o => match o with
  | .ex n ρ1 => match ct n with
    | some true => anyRt fun d => i < ρ1.length ∧ ∀ a, mh a n (ρ1.set i (.raw a)) = some (.rt d)
    | some false => some (.ex n ρ1)
    | none => none
  | o => some o
theorem mTry_rt {mb : M Out} {i : Nat} {ct : Str → Option Bool} {mh : Addr → Str → M Out} {ρ ρ1 : Fr} {n : Str} {d : D} (h1 : mb ρ = some (.ex n ρ1)) (h2 : ct n = some true) (hi : i < ρ1.length) (h3 : ∀ a, mh a n (ρ1.set i (.raw a)) = some (.rt d)) : mTry mb i ct mh ρ = some (.rt d) := by
  unfold mTry
  rw [h1, Option.bind_some]
  simp only [h2]
  refine anyRt_of ⟨hi, h3⟩ fun e he => ?_
  have z := he.2 0
  rw [h3 0] at z
  exact (Out.rt.inj (Option.some.inj z)).symm
theorem mTry_nx {mb : M Out} {i : Nat} {ct : Str → Option Bool} {mh : Addr → Str → M Out} {ρ ρ1 : Fr} (h1 : mb ρ = some (.nx ρ1)) : mTry mb i ct mh ρ = some (.nx ρ1) := by
  unfold mTry
  rw [h1, Option.bind_some]
section
variable {ι : Type} {T : List (Addr × Str)} {K : PySem.W.Frag} {W : WN} {X : ι → Cx} {cl : Str → Addr}
theorem State.setRaw {F0 H0 F H : Hp} {σ : St} {ρ : Fr} {i : Nat} {a : Addr} (S : State T K F0 H0 σ F H ρ) (hi : i < ρ.length) : State T K F0 H0 (σ.set i (some (.ref a))) F H (ρ.set i (.raw a)) := by
  have S1 := S.unset (i := i) (o := some (.ref a))
  have e : ∀ j, j ≠ i → (ρ.set i (.raw a))[j]? = (ρ.set i .no)[j]? := fun j h => by rw [List.getElem?_set_ne (Ne.symm h), List.getElem?_set_ne (Ne.symm h)]
  have at_ : (ρ.set i (.raw a))[i]? = some (.raw a) := List.getElem?_set_self hi
  refine ⟨S1.g, by rw [List.length_set, List.length_set]; exact S.ln, fun j d h => ?_, fun j ds h => ?_, fun j k ds es b c h1 h2 h3 h4 => ?_, fun j b h => ?_⟩
  · by_cases hj : j = i
    · subst hj; rw [at_] at h; cases h
    · rw [e j hj] at h; exact S1.va j d h
  · by_cases hj : j = i
    · subst hj; rw [at_] at h; cases h
    · rw [e j hj] at h; exact S1.ow j ds h
  · by_cases hj : j = i
    · subst hj; rw [at_] at h1; cases h1
    · by_cases hk : k = i
      · subst hk; rw [at_] at h2; cases h2
      · rw [e j hj] at h1
        rw [e k hk] at h2
        exact S1.dj j k ds es b c h1 h2 h3 h4
  · by_cases hj : j = i
    · subst hj
      rw [at_] at h
      cases h
      exact List.getElem?_set_self (by rw [← S.ln]; exact hi)
    · rw [e j hj] at h; exact S1.raw j b h
abbrev TrI (X : ι → Cx) (Wb : WX) := { q : ι × List (Addr × Obj) × (Value → Shared → Prop) // L2N.Takes ((X q.1).tr q.2.1 q.2.2) Wb ∧ PassesOwn (model (X q.1).prog (X q.1).w) (X q.1).A (X q.1).env q.2.2 }
abbrev SuI (X : ι → Cx) (C : Addr) := { q : ι × Obj × List (Addr × Obj) // L2N.Zn (.ref C) none q.2.1 ∧ ∃ vs, q.2.1.data = Data.fields vs }
theorem xs_tryAs {x n : Str} {c : Value} (i : Nat) {body suite : List Stmt} {b₀ : Stmt} {np pos pos' : Pos} {mb : M Out} {mh : Addr → Str → M Out} (ct : Str → Option Bool) (tk : ∀ i0, L2N.Takes (X i0) (WU cl W)) (hN : ∀ i0, (X i0).N.Nodup) (hc : ∀ i0, Names (X i0) x c) (hct : ∀ m b, ct m = some b → PySem.W.exmOne K (.ref (cl m)) c = some b)
    (hb : ∀ Wb : WX, XSs (fun q : TrI X Wb => (X q.1.1).tr q.1.2.1 q.1.2.2) T K (fun m σ H => Wb (.ref (cl m)) none σ H) body mb)
    (hh : ∀ (a : Addr) (m : Str), ct m = some true → XSs (fun q : SuI X (cl m) => (X q.1.1).suite a ((a, q.1.2.1) :: q.1.2.2)) T K W0 (b₀ :: suite) (mh a m))
    (hs : ∀ i0, (X i0).stack = (X i0).env :: (X i0).outer := by intro _; rfl) (hf : ∀ i0, (X i0).env.frame = some (X i0).env.locals := by intro _; rfl) (hi : ∀ i0, (X i0).N[i]? = some n := by intro _; rfl) (hln : ∀ i0, (X i0).env.kindOf n = some .local := by intro _; rfl) (k : ∀ i0, (X i0).K = K := by intro _; rfl) :
    XS X T K W (.Try body [.ExceptHandler (some (.Name x np)) (some n) (b₀ :: suite) pos'] [] [] pos) (mTry mb i ct mh) := by
  let tb : WX → TS := fun Wb => Classical.choose (hb Wb)
  have tb_spec : ∀ Wb, (∀ q : TrI X Wb, PSs ((X q.1.1).tr q.1.2.1 q.1.2.2) body (tb Wb)) ∧ SL T K (fun m σ H => Wb (.ref (cl m)) none σ H) (tb Wb) mb := fun Wb => Classical.choose_spec (hb Wb)
  let ts1 : Addr → Str → TS := fun a m => open Classical in if h : ct m = some true then Classical.choose (hh a m h) else fun _ _ _ => False
  let ts : Addr → Value → Option Addr → TS := fun a cls d De σ H => ∃ m, cls = .ref (cl m) ∧ d = none ∧ ct m = some true ∧ ts1 a m De σ H
  refine ⟨fun De σ H => tb (wAs K c i ts (WU cl W) De) De σ H, fun i0 => ?_, ?_⟩
  · have e := k i0
    subst e
    refine L2N.ps_try_as (hs i0) (hf i0) (hN i0) (hi i0) (hln i0) (hc i0) (tk i0) (fun Wb pn xe t p => (tb_spec Wb).1 ⟨(i0, pn, xe), t, p⟩) fun a oe cls d pn hz hfl => ?_
    constructor
    intro pins s σ H De I ⟨m, e1, e2, e3, ht⟩
    subst e1 e2
    have sp := (Classical.choose_spec (hh a m e3)).1 ⟨(i0, oe, pn), hz, hfl⟩
    have e4 : ts1 a m = Classical.choose (hh a m e3) := dif_pos e3
    rw [e4] at ht
    exact sp.run pins s σ H De I ht
  · intro F0 H0 σ F H ρ o De S h Q
    unfold mTry at h
    obtain ⟨o1, e1, h⟩ := Option.bind_eq_some_iff.mp h
    refine (tb_spec (wAs K c i ts (WU cl W) De)).2 F0 H0 σ F H ρ o1 De S e1 ?_
    cases o1 with
    | nx ρ1 => cases h; exact Q
    | rt d => cases h; exact Q
    | bk ρ1 => cases h; exact Q
    | ct ρ1 => cases h; exact Q
    | ex m ρ1 =>
      intro σ1 F1 H1 S1 s1
      cases q : ct m with
      | none => simp only [q] at h; cases h
      | some b =>
        refine ⟨b, hct m b q, fun hb1 a ha => ?_, fun hb1 => ?_⟩
        · subst hb1
          simp only [q] at h
          obtain ⟨d, e2, hl, hd⟩ := anyRt_some h
          subst e2
          refine ⟨m, rfl, rfl, q, ?_⟩
          have e4 : ts1 a m = Classical.choose (hh a m q) := dif_pos q
          rw [e4]
          exact (Classical.choose_spec (hh a m q)).2 F0 H0 _ F1 H1 _ _ _ (S1.setRaw hl) (hd a) fun v F2 H2 g2 r2 => Q v F2 H2 g2 r2
        · subst hb1
          simp only [q] at h
          cases h
          exact ⟨m, rfl, rfl, Q σ1 F1 H1 S1 s1⟩
end
end Pd

namespace Pd
open PySem PySem.Spec PyProof.Rows L2
/-! ### list.count, list.index of truths -/
def rCntB (K : PySem.W.Frag) : V → List V → Hp → VK → Prop := fun x xs H Q => ∃ (p : Addr) (bs : List Bool) (k : Bool), x = .ref p ∧ xs = [.bl k] ∧ SqL K H p (bs.map V.bl) ∧ Q (.int (bs.count k : Nat)) H
theorem vals_bools : ∀ {bs : List Bool} {vs : List Value}, Vals (bs.map V.bl) vs → vs = bs.map Value.bool
  | [], _, .nil => rfl
  | b :: bs, _, .cons h r => by
    have e : _ = Value.bool b := h
    subst e
    rw [vals_bools r]
    rfl
theorem reads_bools {h : Heap} : ∀ bs : List Bool, ReadsAll h (bs.map Value.bool) (bs.map PyData.bool) []
  | [] => .nil
  | b :: bs => .cons (as := []) (bs := []) (.bool b) (reads_bools bs)
theorem has_bools : ∀ bs : List Bool, (bs.map PyData.bool).all Spec.Shape.bool.has = true
  | [] => rfl
  | b :: bs => by
    rw [List.map_cons, List.all_cons, has_bools bs]
    rfl
theorem countIn_bools (k : Bool) : ∀ bs : List Bool, Spec.countIn (.bool k) (bs.map PyData.bool) = ((bs.count k : Nat) : Int)
  | [] => rfl
  | b :: bs => by
    rw [List.map_cons, List.count_cons]
    simp only [Spec.countIn, countIn_bools k bs]
    cases b <;> cases k <;> simp [Spec.same] <;> omega
theorem mt_countB {X : Cx} : MtR X "list.count" (rCntB X.K) := by
  intro pins s σ H x xs v us Q I r1 rv q
  obtain ⟨p, bs, k, rfl, rfl, hs, q⟩ := q
  have e1 : v = Value.ref p := r1
  subst e1
  obtain ⟨u, rfl, r2⟩ : ∃ u, us = [u] ∧ L2.RelV (.bl k) u := by
    cases rv with
    | cons h r => cases r; exact ⟨_, rfl, h⟩
  have e2 : u = Value.bool k := r2
  subst e2
  obtain ⟨its, vv, ⟨o, n, g1, g2, g3, g4⟩, hl⟩ := I.list hs
  have e3 := vals_bools vv
  subst e3
  refine PyProof.Rows.count_list_bools (hp := s.heap) (as := []) ⟨o, g1, g2, n, g4⟩ (reads_bools bs) (has_bools bs) ?_
  rw [countIn_bools]
  exact ⟨.int (bs.count k : Nat), H, I.tok _, ⟨_, rfl⟩, q⟩
def dCountB : D → D → Option D
  | .list xs, .bool k => (asBools xs).map fun bs => .int (bs.count k : Nat)
  | _, _ => none
def dIndexB : D → D → Option D
  | .list xs, .bool k => (asBools xs).bind fun bs => if k ∈ bs then some (.int (bs.idxOf k : Nat)) else none
  | _, _ => none
section
variable {ι : Type} {T : List (Addr × Str)} {K : PySem.W.Frag} {X : ι → Cx}
theorem xd_countB {o e : Expr} {a b : M D} {apos cpos : Pos} (ha : XD X T K o a) (hb : XD X T K e b) (h1 : ∀ i0, attributeBase o (Str.ofString "count") (X i0).env (eval o (X i0).env) = eval o (X i0).env := by intro _; rfl)
    (h2 : ∀ i0, (((backTo cpos (starEach (e :: []) (X i0).env)).all fun x => !x.1) && (backToKw cpos (keywordEach [] (X i0).env)).all (·.1.isSome) && decide ((e :: ([] : List Expr)).length + ([] : List Keyword).length + (if ([] : List Keyword).isEmpty = true then 0 else 1) < 30)) = true := by intro _; rfl)
    (h3 : (apos.endLine == cpos.line) = true := by rfl) (h4 : ∀ i0, starEach (e :: []) (X i0).env = (false, eval e (X i0).env) :: starEach [] (X i0).env := by intro _; rfl) (h5 : ∀ i0, (backTo cpos (starEach [] (X i0).env)).any (·.1) = false := by intro _; rfl) (k : ∀ i0, (X i0).K = K := by intro _; rfl) :
    XD X T K (.Call (.Attribute o (Str.ofString "count") apos) [e] [] cpos) (m2 dCountB a b) := by
  obtain ⟨t, p, l⟩ := ha
  obtain ⟨u, p2, l2⟩ := hb
  refine ⟨tBM K "list" (rCntB K) t (tCons u tNil), fun i0 => by
    have e := k i0
    subst e
    exact pe_bm PySem.F.plainAttrs_list PySem.F.slot_list_count PySem.F.type_list_count mt_countB (p i0) (pa_cons (p2 i0) pa_nil (h4 i0)) (h1 i0) (h2 i0) h3 (h4 i0) (h5 i0), ?_⟩
  intro F0 H0 σ F H ρ d S h Q q
  unfold m2 at h
  obtain ⟨x, e1, h⟩ := Option.bind_eq_some_iff.mp h
  obtain ⟨y, e2, h⟩ := Option.bind_eq_some_iff.mp h
  refine l F0 H0 σ F H ρ x S e1 _ fun v F1 H1 g1 r1 => ?_
  cases x <;> (first | (cases y <;> simp only [dCountB] at h <;> cases h; done) | skip)
  cases y <;> simp only [dCountB] at h <;> try (cases h; done)
  rename_i xs kk
  obtain ⟨bs, e3, h⟩ := Option.map_eq_some_iff.mp h
  subst h
  cases r1 with
  | lst hs ra =>
    obtain ⟨e4, _⟩ := asBools_rp ra e3
    subst e4
    refine ⟨.inl ⟨rfl, _, g1.s.same.seq hs⟩, ?_⟩
    refine l2 F0 H0 σ F1 H1 ρ _ (S.grow g1) e2 _ fun u F2 H2 g2 r2 => ?_
    cases r2
    exact ⟨_, bs, kk, rfl, rfl, g2.s.same.seq (g2.f.seq hs), q _ F2 H2 (g1.trans g2) (.int _)⟩
theorem xd_indexB {o e : Expr} {a b : M D} {apos cpos : Pos} (ha : XD X T K o a) (hb : XD X T K e b) (h1 : ∀ i0, attributeBase o (Str.ofString "index") (X i0).env (eval o (X i0).env) = eval o (X i0).env := by intro _; rfl)
    (h2 : ∀ i0, (((backTo cpos (starEach (e :: []) (X i0).env)).all fun x => !x.1) && (backToKw cpos (keywordEach [] (X i0).env)).all (·.1.isSome) && decide ((e :: ([] : List Expr)).length + ([] : List Keyword).length + (if ([] : List Keyword).isEmpty = true then 0 else 1) < 30)) = true := by intro _; rfl)
    (h3 : (apos.endLine == cpos.line) = true := by rfl) (h4 : ∀ i0, starEach (e :: []) (X i0).env = (false, eval e (X i0).env) :: starEach [] (X i0).env := by intro _; rfl) (h5 : ∀ i0, (backTo cpos (starEach [] (X i0).env)).any (·.1) = false := by intro _; rfl) (k : ∀ i0, (X i0).K = K := by intro _; rfl) :
    XD X T K (.Call (.Attribute o (Str.ofString "index") apos) [e] [] cpos) (m2 dIndexB a b) := by
  obtain ⟨t, p, l⟩ := ha
  obtain ⟨u, p2, l2⟩ := hb
  refine ⟨tBM K "list" (rIndex K) t (tCons u tNil), fun i0 => by
    have e := k i0
    subst e
    exact pe_bm PySem.F.plainAttrs_list PySem.F.slot_list_index PySem.F.type_list_index mt_index (p i0) (pa_cons (p2 i0) pa_nil (h4 i0)) (h1 i0) (h2 i0) h3 (h4 i0) (h5 i0), ?_⟩
  intro F0 H0 σ F H ρ d S h Q q
  unfold m2 at h
  obtain ⟨x, e1, h⟩ := Option.bind_eq_some_iff.mp h
  obtain ⟨y, e2, h⟩ := Option.bind_eq_some_iff.mp h
  refine l F0 H0 σ F H ρ x S e1 _ fun v F1 H1 g1 r1 => ?_
  cases x <;> (first | (cases y <;> simp only [dIndexB] at h <;> cases h; done) | skip)
  cases y <;> simp only [dIndexB] at h <;> try (cases h; done)
  rename_i xs kk
  obtain ⟨bs, e3, h⟩ := Option.bind_eq_some_iff.mp h
  split at h
  · rename_i hk
    cases h
    cases r1 with
    | lst hs ra =>
      obtain ⟨e4, _⟩ := asBools_rp ra e3
      subst e4
      refine ⟨.inl ⟨rfl, _, g1.s.same.seq hs⟩, ?_⟩
      refine l2 F0 H0 σ F1 H1 ρ _ (S.grow g1) e2 _ fun u F2 H2 g2 r2 => ?_
      cases r2
      have hlt := List.idxOf_lt_length_of_mem hk
      refine ⟨_, bs.map V.bl, .bl kk, bs.idxOf kk, .bl kk, rfl, rfl, g2.s.same.seq (g2.f.seq hs), rfl, ?_, ?_, ?_, fun m z' hm hz => ?_, q _ F2 H2 (g1.trans g2) (.int _)⟩
      · rw [List.all_map, List.all_eq_true]
        intro b _
        rfl
      · rw [List.getElem?_map, List.getElem?_eq_getElem hlt, List.getElem_idxOf hlt]
        rfl
      · cases kk <;> rfl
      · rw [List.getElem?_map] at hz
        obtain ⟨b', hb', rfl⟩ := Option.map_eq_some_iff.mp hz
        have ne : b' ≠ kk := fun z => by
          subst z
          obtain ⟨q1, q2⟩ := List.getElem?_eq_some_iff.mp hb'
          have h3 := List.not_of_lt_findIdx (p := fun x => x == b') (xs := bs) (i := m) hm
          simp [q2] at h3
        cases b' <;> cases kk <;> first | rfl | exact absurd rfl ne
  · cases h
end
end Pd

namespace Pd
open PySem PySem.Spec PyProof.Rows L2
theorem takesN_0 {X : Cx} {cl : Str → Addr} : L2N.Takes X (WU cl W0) := by
  intro u s' ⟨a, B, sI, pins, σ, H, cls, d, h1, h2, h3, h4, h5, h6, h7, h8, n, e1, e2, z⟩
  exact z.elim
theorem caught_suite {ι : Type} {X : ι → Cx} {a C : Addr} (q : SuI X C) : Caught ((X q.1.1).suite a ((a, q.1.2.1) :: q.1.2.2)) a C := by
  obtain ⟨⟨i, oe, pn⟩, ⟨h1, h2, h3⟩, vs, hv⟩ := q
  refine ⟨oe, List.mem_cons_self, ⟨h1, h2⟩, ⟨vs, hv⟩, rfl, ?_⟩
  exact ⟨vs, hv, h3 vs hv⟩
theorem roomH_of {j k : Nat} {A : Around} {h : Option Value} (r : Room j A) (hk : k ≤ j) : L2H.RoomH k (A.mark h) := ⟨by have := r.dp; show A.depth + 3 * k + 5 < _; omega, by have := r.un; show A.units + 16 * k + 200 < _; omega⟩
theorem room65H {k : Nat} {A : Around} (r : L2H.RoomH k A) : A.units + 65 < cLine := by have := r.un; omega
theorem takesN_wu {X : Cx} {cl : Str → Addr} {Wb : WX} (h : L2N.Takes X Wb) : L2N.Takes X (WU cl fun m σ H => Wb (.ref (cl m)) none σ H) := takesN_imp h fun c d σ H ⟨n, e1, e2, h⟩ => by subst e1 e2; exact h
theorem room65S {k : Nat} {A : Around} {h : Option Value} (r : Room k A) : (A.mark h).units + 65 < cLine := by have := r.un; show A.units + 65 < cLine; omega
theorem kit_own {K : PySem.W.Frag} {S C : Addr} {b : Bool} (h2 : PySem.W.isClsIn K C = true) (h3 : PySem.W.typeIn K (.ref C) = some (.type "type")) (h4 : PySem.W.subIn K (.ref S) (.ref C) = some b) (h5 : PySem.W.subIn K (.ref S) (.ref S) = some true) : PySem.W.kitOne K (.ref S) (.ref C) = some b := by
  unfold PySem.W.kitOne
  by_cases e : (Value.ref S == Value.ref C) = true
  · rw [if_pos e]
    have e2 : Value.ref S = Value.ref C := eq_of_beq e
    rw [← e2] at h4
    rw [h5] at h4
    exact h4
  · rw [if_neg e]
    have h2' : (PySem.W.clsIn K C).isSome = true := h2
    have ec : ((PySem.W.clsIn K C).isSome && PySem.W.typeIn K (.ref C) == some (.type "type")) = true := by rw [h2', h3]; rfl
    show (if ((PySem.W.clsIn K C).isSome && PySem.W.typeIn K (.ref C) == some (.type "type")) = true then PySem.W.subIn K (.ref S) (.ref C) else none) = some b
    rw [if_pos ec]
    exact h4
theorem kit_tyE {K : PySem.W.Frag} {S : Addr} {T : String} {b : Bool} (hm : PySem.W.kitMeta T = true) (h4 : PySem.W.subIn K (.ref S) (.type T) = some b) : PySem.W.kitOne K (.ref S) (.type T) = some b := by
  unfold PySem.W.kitOne
  rw [if_neg (by intro z; have := eq_of_beq z; cases this)]
  show (if PySem.W.kitMeta T = true then PySem.W.subIn K (.ref S) (.type T) else none) = some b
  rw [if_pos hm]
  exact h4
theorem exm_own {K : PySem.W.Frag} {S C : Addr} {b : Bool} (h1 : PySem.W.subIn K (.ref C) (.type "BaseException") = some true) (h2 : PySem.W.isClsIn K C = true) (h3 : PySem.W.typeIn K (.ref C) = some (.type "type")) (h4 : PySem.W.subIn K (.ref S) (.ref C) = some b) : PySem.W.exmOne K (.ref S) (.ref C) = some b := by
  have h2' : (PySem.W.clsIn K C).isSome = true := h2
  have e1 : (PySem.W.subIn K (.ref C) (.type "BaseException") == some true) = true := by rw [h1]; rfl
  have ec : ((PySem.W.clsIn K C).isSome && PySem.W.typeIn K (.ref C) == some (.type "type")) = true := by rw [h2', h3]; rfl
  show (if (PySem.W.subIn K (.ref C) (.type "BaseException") == some true) = true then (if ((PySem.W.clsIn K C).isSome && PySem.W.typeIn K (.ref C) == some (.type "type")) = true then PySem.W.subIn K (.ref S) (.ref C) else none) else none) = some b
  rw [if_pos e1, if_pos ec]
  exact h4
section
variable {ι : Type} {T : List (Addr × Str)} {K : PySem.W.Frag} {X : ι → Cx}
/-- over a text: its signs -/
def mItS (a : M D) : M (List D) := fun ρ => (a ρ).bind fun x => match x with
  | .str z => some (z.cps.toList.map fun c => .str ⟨#[c]⟩)
  | _ => none
theorem xi_str {tg e : Expr} {a : M D} (ha : XD X T K e a) : XI X T K tg e (mItS a) := by
  obtain ⟨t, p, l⟩ := ha
  refine ⟨iStr t, fun i0 => pi_str (p i0), ?_⟩
  intro F0 H0 σ F H ρ xs S h R q
  unfold mItS at h
  obtain ⟨y, e1, h⟩ := Option.bind_eq_some_iff.mp h
  refine l F0 H0 σ F H ρ y S e1 _ fun v F1 H1 g1 r1 => ?_
  split at h
  · rename_i z
    cases h
    cases r1
    refine ⟨z, rfl, q _ F1 H1 g1 ⟨fun i H' s hi => ?_, fun i H' s hi => ?_, fun i d F2 H2 x H3 s1 s2 hd hy => ?_⟩⟩
    · rw [List.length_map, Array.length_toList] at hi
      exact hi
    · rw [List.length_map, Array.length_toList] at hi
      exact hi
    · obtain ⟨e, hy⟩ := hy
      subst e
      rw [List.getElem?_map] at hd
      obtain ⟨c, hc, rfl⟩ := Option.map_eq_some_iff.mp hd
      obtain ⟨c', hc', e⟩ := hy
      rw [Array.getElem?_toList, hc'] at hc
      cases hc
      subst e
      exact ⟨F2, Grow.refl s2, .str _⟩
  · cases h
end
end Pd

namespace Lw
open PySem PySem.Spec PyProof.Rows L2 Pd
abbrev top (i : Nat) : Stmt := PySem.Challenge.pw_eventloom_k01_words.main.body.getD i (.Pass ⟨0, 0, 0, 0⟩)
abbrev s_is_whole : Stmt := top 9
abbrev N_is_whole : List Str := ["thing"]
theorem sc_is_whole : FnScope N_is_whole ["thing"] (defScope s_is_whole) := ⟨rfl, rfl, rfl, by decide +kernel, rfl, by decide +kernel, by decide +kernel⟩
abbrev s_is_word : Stmt := top 10
abbrev N_is_word : List Str := ["thing", "sign"]
theorem sc_is_word : FnScope N_is_word ["thing"] (defScope s_is_word) := ⟨rfl, rfl, rfl, by decide +kernel, rfl, by decide +kernel, by decide +kernel⟩
abbrev s_need_word : Stmt := top 11
abbrev N_need_word : List Str := ["thing"]
theorem sc_need_word : FnScope N_need_word ["thing"] (defScope s_need_word) := ⟨rfl, rfl, rfl, by decide +kernel, rfl, by decide +kernel, by decide +kernel⟩
abbrev s_law_told_at : Stmt := top 13
abbrev N_law_told_at : List Str := ["_law_script", "_law_place"]
theorem sc_law_told_at : FnScope N_law_told_at ["_law_script", "_law_place"] (defScope s_law_told_at) := ⟨rfl, rfl, rfl, by decide +kernel, rfl, by decide +kernel, by decide +kernel⟩
abbrev s_law_letters : Stmt := top 14
abbrev N_law_letters : List Str := []
theorem sc_law_letters : FnScope N_law_letters [] (defScope s_law_letters) := ⟨rfl, rfl, rfl, by decide +kernel, rfl, by decide +kernel, by decide +kernel⟩
abbrev s_law_any_sign : Stmt := top 15
abbrev N_law_any_sign : List Str := ["_law_cell", "_law_marks", "_law_signs"]
theorem sc_law_any_sign : FnScope N_law_any_sign ["_law_cell"] (defScope s_law_any_sign) := ⟨rfl, rfl, rfl, by decide +kernel, rfl, by decide +kernel, by decide +kernel⟩
abbrev s_law_kind : Stmt := top 16
abbrev N_law_kind : List Str := ["_law_error", "_law_kinds"]
theorem sc_law_kind : FnScope N_law_kind ["_law_error"] (defScope s_law_kind) := ⟨rfl, rfl, rfl, by decide +kernel, rfl, by decide +kernel, by decide +kernel⟩
abbrev s_law_refused : Stmt := top 17
abbrev N_law_refused : List Str := ["_law_thing", "_law_error"]
theorem sc_law_refused : FnScope N_law_refused ["_law_thing"] (defScope s_law_refused) := ⟨rfl, rfl, rfl, by decide +kernel, rfl, by decide +kernel, by decide +kernel⟩
abbrev s_law_told : Stmt := top 18
abbrev N_law_told : List Str := ["_law_found", "_law_due"]
theorem sc_law_told : FnScope N_law_told ["_law_found", "_law_due"] (defScope s_law_told) := ⟨rfl, rfl, rfl, by decide +kernel, rfl, by decide +kernel, by decide +kernel⟩
abbrev s_law : Stmt := top 19
abbrev N_law : List Str := ["_law_script", "_law_size", "_law_step", "_law_text", "_law_at", "_law_due", "_law_odd", "_law_number", "_law_found", "_law_k", "_law_sign"]
theorem sc_law : FnScope N_law ["_law_script"] (defScope s_law) := ⟨rfl, rfl, rfl, by decide +kernel, rfl, by decide +kernel, by decide +kernel⟩
structure Ad where
  f_is_whole : Addr
  d_is_whole : FuncData
  f_is_word : Addr
  d_is_word : FuncData
  f_need_word : Addr
  d_need_word : FuncData
  f_law_told_at : Addr
  d_law_told_at : FuncData
  f_law_letters : Addr
  d_law_letters : FuncData
  f_law_any_sign : Addr
  d_law_any_sign : FuncData
  f_law_kind : Addr
  d_law_kind : FuncData
  f_law_refused : Addr
  d_law_refused : FuncData
  f_law_told : Addr
  d_law_told : FuncData
  f_law : Addr
  d_law : FuncData
  cl : Str → Addr
structure Tx (K : PySem.W.Frag) (mg : Str → Option Value) (base : Heap) (Tb : List (Addr × Str)) (a : Ad) : Prop where
  F_is_whole : Fun K "is_whole" "is_whole" s_is_whole a.f_is_whole a.d_is_whole
  g_is_whole : mg "is_whole" = some (.ref a.f_is_whole)
  b_is_whole : L2.Binds K a.d_is_whole ["thing"] []
  F_is_word : Fun K "is_word" "is_word" s_is_word a.f_is_word a.d_is_word
  g_is_word : mg "is_word" = some (.ref a.f_is_word)
  b_is_word : L2.Binds K a.d_is_word ["thing"] []
  F_need_word : Fun K "need_word" "need_word" s_need_word a.f_need_word a.d_need_word
  g_need_word : mg "need_word" = some (.ref a.f_need_word)
  b_need_word : L2.Binds K a.d_need_word ["thing"] []
  F_law_told_at : Fun K "_law_told_at" "_law_told_at" s_law_told_at a.f_law_told_at a.d_law_told_at
  g_law_told_at : mg "_law_told_at" = some (.ref a.f_law_told_at)
  b_law_told_at : L2.Binds K a.d_law_told_at ["_law_script", "_law_place"] []
  F_law_letters : Fun K "_law_letters" "_law_letters" s_law_letters a.f_law_letters a.d_law_letters
  g_law_letters : mg "_law_letters" = some (.ref a.f_law_letters)
  b_law_letters : L2.Binds K a.d_law_letters [] []
  F_law_any_sign : Fun K "_law_any_sign" "_law_any_sign" s_law_any_sign a.f_law_any_sign a.d_law_any_sign
  g_law_any_sign : mg "_law_any_sign" = some (.ref a.f_law_any_sign)
  b_law_any_sign : L2.Binds K a.d_law_any_sign ["_law_cell"] []
  F_law_kind : Fun K "_law_kind" "_law_kind" s_law_kind a.f_law_kind a.d_law_kind
  g_law_kind : mg "_law_kind" = some (.ref a.f_law_kind)
  b_law_kind : L2.Binds K a.d_law_kind ["_law_error"] []
  F_law_refused : Fun K "_law_refused" "_law_refused" s_law_refused a.f_law_refused a.d_law_refused
  g_law_refused : mg "_law_refused" = some (.ref a.f_law_refused)
  b_law_refused : L2.Binds K a.d_law_refused ["_law_thing"] []
  F_law_told : Fun K "_law_told" "_law_told" s_law_told a.f_law_told a.d_law_told
  g_law_told : mg "_law_told" = some (.ref a.f_law_told)
  b_law_told : L2.Binds K a.d_law_told ["_law_found", "_law_due"] []
  F_law : Fun K "law" "law" s_law a.f_law a.d_law
  g_law : mg "law" = some (.ref a.f_law)
  b_law : L2.Binds K a.d_law ["_law_script"] []
  xc_NoWord : PySem.W.excIn K (a.cl "NoWord") [Value.type "ValueError", Value.type "Exception", Value.type "BaseException", Value.type "object"] "ValueError.__new__" = true
  kc_NoWord : PySem.W.keepIn K (.ref (a.cl "NoWord")) = true
  sc_NoWord : PySem.W.subIn K (.ref (a.cl "NoWord")) (.type "BaseException") = some true
  tc_NoWord : PySem.W.typeIn K (.ref (a.cl "NoWord")) = some (.type "type")
  ec_NoWord : ExcC K (a.cl "NoWord")
  gc_NoWord : mg "NoWord" = some (.ref (a.cl "NoWord"))
  gc_NoHandler : mg "NoHandler" = some (.ref (a.cl "NoHandler"))
  gc_Twice : mg "Twice" = some (.ref (a.cl "Twice"))
  gc_Stranger : mg "Stranger" = some (.ref (a.cl "Stranger"))
  gc_NoCount : mg "NoCount" = some (.ref (a.cl "NoCount"))
  gc_LoomError : mg "LoomError" = some (.ref (a.cl "LoomError"))
  kit_NoWord_NoWord : PySem.W.kitOne K (.ref (a.cl "NoWord")) (.ref (a.cl "NoWord")) = some true
  kit_NoWord_NoHandler : PySem.W.kitOne K (.ref (a.cl "NoWord")) (.ref (a.cl "NoHandler")) = some false
  kit_NoWord_Twice : PySem.W.kitOne K (.ref (a.cl "NoWord")) (.ref (a.cl "Twice")) = some false
  kit_NoWord_Stranger : PySem.W.kitOne K (.ref (a.cl "NoWord")) (.ref (a.cl "Stranger")) = some false
  kit_NoWord_NoCount : PySem.W.kitOne K (.ref (a.cl "NoWord")) (.ref (a.cl "NoCount")) = some false
  kit_NoWord_ValueError : PySem.W.kitOne K (.ref (a.cl "NoWord")) (.type "ValueError") = some true
  exm_NoWord_LoomError : PySem.W.exmOne K (.ref (a.cl "NoWord")) (.ref (a.cl "LoomError")) = some true
  n_isinstance : mg "isinstance" = none
  n_int : mg "int" = none
  n_bool : mg "bool" = none
  n_str : mg "str" = none
  n_len : mg "len" = none
  n_all : mg "all" = none
  n_ValueError : mg "ValueError" = none
  n_range : mg "range" = none
  c_MOST_SIGNS : ∃ t, mg "MOST_SIGNS" = some (.int 12 t)
def m_is_whole : M Out := (mRet (mAndV (m1 (dIsi "int") (mVar 0)) (mNotV (m1 (dIsi "bool") (mVar 0)))))
def G_is_whole : List D → Option D := runD 1 1 m_is_whole
def m_is_word : M Out := (mSeq (mIfS (mOr (mNot (mTru (m1 (dIsi "str") (mVar 0)))) (mNot (mB (mChain dLe dLe (mC (.int 1)) (mA dLen (mCons (mVar 0) mNil)) (mC (.int 12))))))
  (mRet (mC (.bool false)))
  mNext)
  (mRet (mA dAll (mCons (mL (mLc (mItS (mVar 0)) [1] (gSet 1) mYes (mChain dLe dLe (mC (.str "a")) (mVar 1) (mC (.str "z"))))) mNil))))
def G_is_word : List D → Option D := runD 1 2 m_is_word
def m_need_word : M Out := (mSeq (mIfS (mNot (mTru (mA G_is_word (mCons (mVar 0) mNil))))
  (fun ρ => some (.ex "NoWord" ρ))
  mNext)
  (mRet (mVar 0)))
def G_need_word : List D → Option Res := runX 1 1 m_need_word
def m_law_told_at : M Out := (mSeq (mIfS (mB (m2 dGe (mVar 1) (mA dLen (mCons (mVar 0) mNil))))
  (mRet (mC (.int 0)))
  mNext)
  (mRet (m2 dIx (mVar 0) (mVar 1))))
def G_law_told_at : List D → Option D := runD 2 2 m_law_told_at
def m_law_letters : M Out := (mRet (mC (.str "abcdefghijklmnopqrstuvwxyz")))
def G_law_letters : List D → Option D := runD 0 0 m_law_letters
def m_law_any_sign : M Out := (mSeq (mAsg (m2 dAdd (mC (.str " !\"#$&'()*+,-./:;<=>?\x40[\\]^_`{|}~")) (mC (.str "0123456789"))) (gSet 1))
  (mSeq (mAsg (m2 dAdd (m2 dAdd (mVar 1) (mA G_law_letters mNil)) (m1 dUpper (mA G_law_letters mNil))) (gSet 2))
  (mRet (m2 dIx (mVar 2) (m2 dMod (mVar 0) (mA dLen (mCons (mVar 2) mNil)))))))
def G_law_any_sign : List D → Option D := runD 1 3 m_law_any_sign
def m_law_kind (ad : Addr) : M Out := (mSeq (mAsg (mA dLst (mCons (mIs ad 0 true) (mCons (mIs ad 0 false) (mCons (mIs ad 0 false) mNil)))) (gSet 1))
  (mSeq (mAsg (m2 dAdd (mVar 1) (mA dLst (mCons (mIs ad 0 false) (mCons (mIs ad 0 false) mNil)))) (gSet 1))
  (mSeq (mIfS (mOr (mB (m2 dNe (m2 dCountB (mVar 1) (mC (.bool true))) (mC (.int 1)))) (mNot (mTru (mIs ad 0 true))))
  (mRet (m1 dNeg (mC (.int 1))))
  mNext)
  (mRet (m2 dIndexB (mVar 1) (mC (.bool true)))))))
noncomputable def m_law_refused : M Out := (mSeq (mTry (mExprX (mAX G_need_word (mCons (mVar 0) mNil))) 1 (fun m => if m = ("NoWord" : Str) then some true else none) (fun ad _ => (mRet (m2 dEq (mP 2 (fun ad => m_law_kind ad) ad 1) (mC (.int 0))))))
  (mRet (mC (.bool false))))
noncomputable def G_law_refused : List D → Option D := runD 1 2 m_law_refused
def m_law_told : M Out := (mRet (mAndV (m1 (dIsi "bool") (mVar 0)) (m2 dEq (mVar 0) (mVar 1))))
def G_law_told : List D → Option D := runD 2 2 m_law_told
noncomputable def m_law : M Out := (mSeq (mAsg (m2 dMod (mA G_law_told_at (mCons (mVar 0) (mCons (mC (.int 0)) mNil))) (mC (.int 15))) (gSet 1))
  (mSeq (mAsg (m2 dAdd (mC (.int 1)) (m2 dMod (m2 dFdiv (mA G_law_told_at (mCons (mVar 0) (mCons (mC (.int 1)) mNil))) (mC (.int 26))) (mC (.int 25)))) (gSet 2))
  (mSeq (mAsg (m2 dJoin (mC (.str "")) (mL (mLc (mRng1 (mVar 1)) [9] (gSet 9) mYes (m2 dIx (mA G_law_letters mNil) (m2 dMod (m2 dAdd (mA G_law_told_at (mCons (mVar 0) (mCons (mC (.int 1)) mNil))) (m2 dMul (mVar 9) (mVar 2))) (mC (.int 26))))))) (gSet 3))
  (mSeq (mAsg (m2 dMod (m2 dFdiv (mA G_law_told_at (mCons (mVar 0) (mCons (mC (.int 2)) mNil))) (mC (.int 2))) (mC (.int 15))) (gSet 4))
  (mSeq (mIfS (mAnd (mB (m2 dEq (m2 dMod (mA G_law_told_at (mCons (mVar 0) (mCons (mC (.int 2)) mNil))) (mC (.int 2))) (mC (.int 1)))) (mB (m2 dLt (mVar 4) (mVar 1))))
  (mAsg (m2 dAdd (m2 dAdd (mSl (mVar 3) mNo (mSo (mVar 4))) (mA G_law_any_sign (mCons (mA G_law_told_at (mCons (mVar 0) (mCons (mC (.int 3)) mNil))) mNil))) (mSl (mVar 3) (mSo (m2 dAdd (mVar 4) (mC (.int 1)))) mNo)) (gSet 3))
  mNext)
  (mSeq (mAsg (mAndV (mChain dLt dLt (mC (.int 0)) (mVar 1) (mC (.int 13))) (mA dAll (mCons (mL (mLc (mItS (mVar 3)) [10] (gSet 10) mYes (m2 dIn (mVar 10) (mA G_law_letters mNil)))) mNil))) (gSet 5))
  (mSeq (mAsg (m2 dIx (mA dLst (mCons (mC (.bool true)) (mCons (mC (.int 5)) (mCons (mC .none) (mCons (mC (.str "")) (mCons (mA dTup (mCons (mC (.str "a")) mNil)) (mCons (mA dLst (mCons (mC (.str "a")) (mCons (mC (.str "b")) mNil))) (mCons (mC (.int 0)) mNil)))))))) (m2 dMod (mA G_law_told_at (mCons (mVar 0) (mCons (mC (.int 4)) mNil))) (mC (.int 7)))) (gSet 6))
  (mSeq (mAsg (mA G_law_told_at (mCons (mVar 0) (mCons (mC (.int 5)) mNil))) (gSet 7))
  (mSeq (mIfS (mOr (mNot (mTru (mA G_law_told (mCons (mA G_is_word (mCons (mVar 3) mNil)) (mCons (mVar 5) mNil))))) (mOr (mNot (mTru (mA G_law_told (mCons (mA G_is_word (mCons (mVar 6) mNil)) (mCons (mC (.bool false)) mNil))))) (mNot (mTru (mA G_law_refused (mCons (mVar 6) mNil))))))
  (mRet (mC (.bool false)))
  mNext)
  (mSeq (mIfS (mOr (mNot (mTru (mA G_law_told (mCons (mA G_is_whole (mCons (mVar 7) mNil)) (mCons (mC (.bool true)) mNil))))) (mNot (mTru (mA G_law_told (mCons (mA G_is_whole (mCons (m2 dEq (mVar 7) (mC (.int 5))) mNil)) (mCons (mC (.bool false)) mNil))))))
  (mRet (mC (.bool false)))
  mNext)
  (mSeq (mIfS (mOr (mNot (mTru (mA G_law_told (mCons (mA G_is_whole (mCons (mA dStr (mCons (m2 dMod (mVar 7) (mC (.int 1000))) mNil)) mNil)) (mCons (mC (.bool false)) mNil))))) (mNot (mTru (mA G_law_told (mCons (mA G_is_whole (mCons (mC .none) mNil)) (mCons (mC (.bool false)) mNil))))))
  (mRet (mC (.bool false)))
  mNext)
  (mSeq (mIfS (mNot (mTru (mVar 5)))
  (mRet (mA G_law_refused (mCons (mVar 3) mNil)))
  mNext)
  (mSeq (mAsg (mA (mVal G_need_word) (mCons (mVar 3) mNil)) (gSet 8))
  (mRet (mAndV (m1 (dIsi "str") (mVar 8)) (m2 dEq (mVar 8) (mVar 3)))))))))))))))))
noncomputable def G_law : List D → Option D := runD 1 11 m_law
section
variable {P : Program} {w : World} {Tb : List (Addr × Str)} {K : PySem.W.Frag} {mg : Str → Option Value} {base : Heap} {a : Ad}
theorem ok_is_whole (T : Tx K mg base Tb a) : FnOk P w K mg base CX0 1 a.f_is_whole a.d_is_whole ["thing"] (spD Tb K G_is_whole) := by
  refine fnD (N := N_is_whole) (m := m_is_whole) T.F_is_whole sc_is_whole fun cdv A outer s H E hr => ?_
  exact (xss_one (xs_ret (xd_and (xd_isi (Ty := "int") (xd_v 0) (fun _ => T.n_isinstance) (fun _ => T.n_int) (by decide +kernel)) (xd_one (xd_not (xd_isi (Ty := "bool") (xd_v 0) (fun _ => T.n_isinstance) (fun _ => T.n_bool) (by decide +kernel)))))))
theorem ok_is_word (T : Tx K mg base Tb a) : FnOk P w K mg base CX0 1 a.f_is_word a.d_is_word ["thing"] (spD Tb K G_is_word) := by
  refine fnD (N := N_is_word) (m := m_is_word) T.F_is_word sc_is_word fun cdv A outer s H E hr => ?_
  exact (xss_cons (xs_if (XW.pt (xw_or (xt_not (xt_tru (xd_isi (Ty := "str") (xd_v 0) (fun _ => T.n_isinstance) (fun _ => T.n_str) (by decide +kernel)))) (xw_or1 (xt_not (xt_chain opk_le opk_le ol_le ol_le xd_int (xd_len (xa_cons (xd_v 0) xa_nil) (fun _ => T.n_len)) (xd_glob (v := .int 12) (fun _ => Classical.choose_spec T.c_MOST_SIGNS) ⟨_, rfl⟩ (fun _ => .int _)))))))
      (xss_one (xs_ret xd_bl))
      xss_nil)
      (xss_one (xs_ret (xd_all (xa_cons (xf_lc (own := [("sign", 1)]) (fun _ => sc_is_word.nd) (fun _ => blkOk_by (own := [("sign", 1)]) (N := N_is_word) (sc := defScope s_is_word) (by decide +kernel)) (xi_str (xd_v 0)) (xg_name 1 (fun _ => sc_is_word.nd)) xts_nil (xd_chain opk_le opk_le ol_le ol_le xd_str (xd_v 1) xd_str)).xd xa_nil) (fun _ => T.n_all)))))
theorem ok_need_word (T : Tx K mg base Tb a) : FnOk P w K mg base (L2N.CX P w) 2 a.f_need_word a.d_need_word ["thing"] (spX Tb K a.cl G_need_word) := by
  refine fnX (N := N_need_word) (m := m_need_word) T.F_need_word sc_need_word fun cdv A outer s H E hr tk => ?_
  exact (xss_cons (xs_if (xt_not (xt_tru (xd_call (fun _ => ok_is_word T) (fun _ => hr.mono (by decide)) (fun _ => T.g_is_word) T.F_is_word.kp T.b_is_word (xa_cons (xd_v 0) xa_nil))))
      (xss_one (xs_raise "NoWord" (fun _ => tk) PySem.F.excBase_ValueError T.xc_NoWord (fun _ => T.gc_NoWord) T.kc_NoWord T.sc_NoWord T.tc_NoWord))
      xss_nil)
      (xss_one (xs_ret (xd_v 0))))
theorem ok_law_told_at (T : Tx K mg base Tb a) : FnOk P w K mg base CX0 1 a.f_law_told_at a.d_law_told_at ["_law_script", "_law_place"] (spD Tb K G_law_told_at) := by
  refine fnD (N := N_law_told_at) (m := m_law_told_at) T.F_law_told_at sc_law_told_at fun cdv A outer s H E hr => ?_
  exact (xss_cons (xs_if (xt_cmp opk_ge ol_ge (xd_v 1) (xd_len (xa_cons (xd_v 0) xa_nil) (fun _ => T.n_len)) (nomark _))
      (xss_one (xs_ret xd_int))
      xss_nil)
      (xss_one (xs_ret (xd_ix (xd_v 0) (xd_v 1)))))
theorem ok_law_letters (T : Tx K mg base Tb a) : FnOk P w K mg base CX0 1 a.f_law_letters a.d_law_letters [] (spD Tb K G_law_letters) := by
  refine fnD (N := N_law_letters) (m := m_law_letters) T.F_law_letters sc_law_letters fun cdv A outer s H E hr => ?_
  exact (xss_one (xs_ret xd_str))
theorem ok_law_any_sign (T : Tx K mg base Tb a) : FnOk P w K mg base CX0 2 a.f_law_any_sign a.d_law_any_sign ["_law_cell"] (spD Tb K G_law_any_sign) := by
  refine fnD (N := N_law_any_sign) (m := m_law_any_sign) T.F_law_any_sign sc_law_any_sign fun cdv A outer s H E hr => ?_
  exact (xss_cons (xs_asg (xd_add xd_str xd_str) (xg_name 1 (fun _ => sc_law_any_sign.nd)))
      (xss_cons (xs_asg (xd_add (xd_add (xd_v 1) (xd_call0 (fun _ => ok_law_letters T) (fun _ => hr.mono (by decide)) (fun _ => T.g_law_letters) T.F_law_letters.kp T.b_law_letters)) (xd_upper (xd_call0 (fun _ => ok_law_letters T) (fun _ => hr.mono (by decide)) (fun _ => T.g_law_letters) T.F_law_letters.kp T.b_law_letters))) (xg_name 2 (fun _ => sc_law_any_sign.nd)))
      (xss_one (xs_ret (xd_ix (xd_v 2) (xd_mod (xd_v 0) (xd_len (xa_cons (xd_v 2) xa_nil) (fun _ => T.n_len))))))))
theorem ok_law_kind (T : Tx K mg base Tb a) : FnP P w K mg base 1 a.f_law_kind a.d_law_kind ["_law_error"] (a.cl "NoWord") (spP Tb K 2 (fun ad => m_law_kind ad)) := by
  refine fnPD (N := N_law_kind) (m := fun ad => m_law_kind ad) T.F_law_kind sc_law_kind (by decide) fun cdv A outer s H p hr hc => ?_
  exact (xss_cons (xs_asg (xd_lst (xa_cons (xd_isE (b := true) 0 (c := .ref (a.cl "NoWord")) (cv := .ref (a.cl "NoWord")) (fun _ => hc) T.ec_NoWord T.kit_NoWord_NoWord (fun _ h => h) (fun _ => pe_glob rfl T.gc_NoWord rfl) (fun _ => T.n_isinstance)) (xa_cons (xd_isE (b := false) 0 (c := .ref (a.cl "NoHandler")) (cv := .ref (a.cl "NoHandler")) (fun _ => hc) T.ec_NoWord T.kit_NoWord_NoHandler (fun _ h => h) (fun _ => pe_glob rfl T.gc_NoHandler rfl) (fun _ => T.n_isinstance)) (xa_cons (xd_isE (b := false) 0 (c := .ref (a.cl "Twice")) (cv := .ref (a.cl "Twice")) (fun _ => hc) T.ec_NoWord T.kit_NoWord_Twice (fun _ h => h) (fun _ => pe_glob rfl T.gc_Twice rfl) (fun _ => T.n_isinstance)) xa_nil)))) (xg_name 1 (fun _ => sc_law_kind.nd)))
      (xss_cons (xs_asg (xd_add (xd_v 1) (xd_lst (xa_cons (xd_isE (b := false) 0 (c := .ref (a.cl "Stranger")) (cv := .ref (a.cl "Stranger")) (fun _ => hc) T.ec_NoWord T.kit_NoWord_Stranger (fun _ h => h) (fun _ => pe_glob rfl T.gc_Stranger rfl) (fun _ => T.n_isinstance)) (xa_cons (xd_isE (b := false) 0 (c := .ref (a.cl "NoCount")) (cv := .ref (a.cl "NoCount")) (fun _ => hc) T.ec_NoWord T.kit_NoWord_NoCount (fun _ h => h) (fun _ => pe_glob rfl T.gc_NoCount rfl) (fun _ => T.n_isinstance)) xa_nil)))) (xg_name 1 (fun _ => sc_law_kind.nd)))
      (xss_cons (xs_if (XW.pt (xw_or (xt_cmp (opk_ne (fun _ => room65H hr)) ol_ne (xd_countB (xd_v 1) xd_bl) xd_int (nomark _)) (xw_or1 (xt_not (xt_tru (xd_isE (b := true) 0 (c := .ty "ValueError") (cv := .type "ValueError") (fun _ => hc) T.ec_NoWord T.kit_NoWord_ValueError (fun _ h => h) (fun _ => pe_bltn rfl T.n_ValueError (by decide +kernel) rfl) (fun _ => T.n_isinstance)))))))
      (xss_one (xs_ret (xd_neg xd_int)))
      xss_nil)
      (xss_one (xs_ret (xd_indexB (xd_v 1) xd_bl))))))
theorem ok_law_refused (T : Tx K mg base Tb a) : FnOk P w K mg base CX0 3 a.f_law_refused a.d_law_refused ["_law_thing"] (spD Tb K G_law_refused) := by
  refine fnD (N := N_law_refused) (m := m_law_refused) T.F_law_refused sc_law_refused fun cdv A outer s H E hr => ?_
  exact (xss_cons (xs_tryAs (cl := a.cl) (c := .ref (a.cl "LoomError")) 1 (fun m => if m = ("NoWord" : Str) then some true else none) (fun _ => takesN_0) (fun _ => sc_law_refused.nd) (fun _ => ⟨rfl, by decide, .inl T.gc_LoomError⟩) (fun m b h => by
      split at h
      · rename_i e; subst e; cases h; exact T.exm_NoWord_LoomError
      · cases h)
      (fun Wb => (xss_one (xs_exprX (xdx_call (cl := a.cl) (fun q => takesN_wu q.2.1) (fun _ => ok_need_word T) (fun _ => hr.mono (by decide)) (fun _ => T.g_need_word) T.F_need_word.kp T.b_need_word (xa_cons (xd_v 0) xa_nil)))))
      (fun ad m h => by
      have e : m = ("NoWord" : Str) := by
        split at h
        · assumption
        · cases h
      subst e
      exact (xss_one (xs_ret (xd_cmp (opk_eq (fun _ => room65S hr)) ol_eq (xd_callP 1 (fun q => caught_suite q) (fun _ => ok_law_kind T) T.F_law_kind (fun _ => roomH_of hr (by decide)) (fun _ => T.g_law_kind) T.b_law_kind) xd_int (nomark _))))))
      (xss_one (xs_ret xd_bl)))
theorem ok_law_told (T : Tx K mg base Tb a) : FnOk P w K mg base CX0 1 a.f_law_told a.d_law_told ["_law_found", "_law_due"] (spD Tb K G_law_told) := by
  refine fnD (N := N_law_told) (m := m_law_told) T.F_law_told sc_law_told fun cdv A outer s H E hr => ?_
  exact (xss_one (xs_ret (xd_and (xd_isi (Ty := "bool") (xd_v 0) (fun _ => T.n_isinstance) (fun _ => T.n_bool) (by decide +kernel)) (xd_one (xd_cmp (opk_eq (fun _ => room65 hr)) ol_eq (xd_v 0) (xd_v 1) (nomark _))))))
theorem ok_law (T : Tx K mg base Tb a) : FnOk P w K mg base CX0 4 a.f_law a.d_law ["_law_script"] (spD Tb K G_law) := by
  refine fnD (N := N_law) (m := m_law) T.F_law sc_law fun cdv A outer s H E hr => ?_
  exact (xss_cons (xs_asg (xd_mod (xd_call (fun _ => ok_law_told_at T) (fun _ => hr.mono (by decide)) (fun _ => T.g_law_told_at) T.F_law_told_at.kp T.b_law_told_at (xa_cons (xd_v 0) (xa_cons xd_int xa_nil))) xd_int) (xg_name 1 (fun _ => sc_law.nd)))
      (xss_cons (xs_asg (xd_add xd_int (xd_mod (xd_fdiv (xd_call (fun _ => ok_law_told_at T) (fun _ => hr.mono (by decide)) (fun _ => T.g_law_told_at) T.F_law_told_at.kp T.b_law_told_at (xa_cons (xd_v 0) (xa_cons xd_int xa_nil))) xd_int) xd_int)) (xg_name 2 (fun _ => sc_law.nd)))
      (xss_cons (xs_asg (xd_join xd_str (xf_lc (own := [("_law_k", 9)]) (fun _ => sc_law.nd) (fun _ => blkOk_by (own := [("_law_k", 9)]) (N := N_law) (sc := defScope s_law) (by decide +kernel)) (xi_rng1 (xd_v 1) (fun _ => T.n_range)) (xg_name 9 (fun _ => sc_law.nd)) xts_nil (xd_ix (xd_call0 (fun _ => ok_law_letters T) (fun _ => hr.mono (by decide)) (fun _ => T.g_law_letters) T.F_law_letters.kp T.b_law_letters) (xd_mod (xd_add (xd_call (fun _ => ok_law_told_at T) (fun _ => hr.mono (by decide)) (fun _ => T.g_law_told_at) T.F_law_told_at.kp T.b_law_told_at (xa_cons (xd_v 0) (xa_cons xd_int xa_nil))) (xd_mul (xd_v 9) (xd_v 2))) xd_int))).xd) (xg_name 3 (fun _ => sc_law.nd)))
      (xss_cons (xs_asg (xd_mod (xd_fdiv (xd_call (fun _ => ok_law_told_at T) (fun _ => hr.mono (by decide)) (fun _ => T.g_law_told_at) T.F_law_told_at.kp T.b_law_told_at (xa_cons (xd_v 0) (xa_cons xd_int xa_nil))) xd_int) xd_int) (xg_name 4 (fun _ => sc_law.nd)))
      (xss_cons (xs_if (XW.pt (xw_and (xt_cmp (opk_eq (fun _ => room65 hr)) ol_eq (xd_mod (xd_call (fun _ => ok_law_told_at T) (fun _ => hr.mono (by decide)) (fun _ => T.g_law_told_at) T.F_law_told_at.kp T.b_law_told_at (xa_cons (xd_v 0) (xa_cons xd_int xa_nil))) xd_int) xd_int (nomark _)) (xw_and1 (xt_cmp opk_lt ol_lt (xd_v 4) (xd_v 1) (nomark _)))))
      (xss_one (xs_asg (xd_add (xd_add (xd_slice (xd_v 3) xo_none (xo_some (xd_v 4))) (xd_call (fun _ => ok_law_any_sign T) (fun _ => hr.mono (by decide)) (fun _ => T.g_law_any_sign) T.F_law_any_sign.kp T.b_law_any_sign (xa_cons (xd_call (fun _ => ok_law_told_at T) (fun _ => hr.mono (by decide)) (fun _ => T.g_law_told_at) T.F_law_told_at.kp T.b_law_told_at (xa_cons (xd_v 0) (xa_cons xd_int xa_nil))) xa_nil))) (xd_slice (xd_v 3) (xo_some (xd_add (xd_v 4) xd_int)) xo_none)) (xg_name 3 (fun _ => sc_law.nd))))
      xss_nil)
      (xss_cons (xs_asg (xd_and (xd_chain opk_lt opk_lt ol_lt ol_lt xd_int (xd_v 1) xd_int) (xd_one (xd_all (xa_cons (xf_lc (own := [("_law_sign", 10)]) (fun _ => sc_law.nd) (fun _ => blkOk_by (own := [("_law_sign", 10)]) (N := N_law) (sc := defScope s_law) (by decide +kernel)) (xi_str (xd_v 3)) (xg_name 10 (fun _ => sc_law.nd)) xts_nil (xd_cmp (opk_in (fun _ => room65 hr)) ol_in (xd_v 10) (xd_call0 (fun _ => ok_law_letters T) (fun _ => hr.mono (by decide)) (fun _ => T.g_law_letters) T.F_law_letters.kp T.b_law_letters) (by rfl))).xd xa_nil) (fun _ => T.n_all)))) (xg_name 5 (fun _ => sc_law.nd)))
      (xss_cons (xs_asg (xd_ix (xd_lst (xa_cons xd_bl (xa_cons xd_int (xa_cons xd_non (xa_cons xd_str (xa_cons (xd_tup (xa_cons xd_str xa_nil)) (xa_cons (xd_lst (xa_cons xd_str (xa_cons xd_str xa_nil))) (xa_cons xd_int xa_nil)))))))) (xd_mod (xd_call (fun _ => ok_law_told_at T) (fun _ => hr.mono (by decide)) (fun _ => T.g_law_told_at) T.F_law_told_at.kp T.b_law_told_at (xa_cons (xd_v 0) (xa_cons xd_int xa_nil))) xd_int)) (xg_name 6 (fun _ => sc_law.nd)))
      (xss_cons (xs_asg (xd_call (fun _ => ok_law_told_at T) (fun _ => hr.mono (by decide)) (fun _ => T.g_law_told_at) T.F_law_told_at.kp T.b_law_told_at (xa_cons (xd_v 0) (xa_cons xd_int xa_nil))) (xg_name 7 (fun _ => sc_law.nd)))
      (xss_cons (xs_if (XW.pt (xw_or (xt_not (xt_tru (xd_call (fun _ => ok_law_told T) (fun _ => hr.mono (by decide)) (fun _ => T.g_law_told) T.F_law_told.kp T.b_law_told (xa_cons (xd_call (fun _ => ok_is_word T) (fun _ => hr.mono (by decide)) (fun _ => T.g_is_word) T.F_is_word.kp T.b_is_word (xa_cons (xd_v 3) xa_nil)) (xa_cons (xd_v 5) xa_nil))))) (xw_or (xt_not (xt_tru (xd_call (fun _ => ok_law_told T) (fun _ => hr.mono (by decide)) (fun _ => T.g_law_told) T.F_law_told.kp T.b_law_told (xa_cons (xd_call (fun _ => ok_is_word T) (fun _ => hr.mono (by decide)) (fun _ => T.g_is_word) T.F_is_word.kp T.b_is_word (xa_cons (xd_v 6) xa_nil)) (xa_cons xd_bl xa_nil))))) (xw_or1 (xt_not (xt_tru (xd_call (fun _ => ok_law_refused T) (fun _ => hr.mono (by decide)) (fun _ => T.g_law_refused) T.F_law_refused.kp T.b_law_refused (xa_cons (xd_v 6) xa_nil))))))))
      (xss_one (xs_ret xd_bl))
      xss_nil)
      (xss_cons (xs_if (XW.pt (xw_or (xt_not (xt_tru (xd_call (fun _ => ok_law_told T) (fun _ => hr.mono (by decide)) (fun _ => T.g_law_told) T.F_law_told.kp T.b_law_told (xa_cons (xd_call (fun _ => ok_is_whole T) (fun _ => hr.mono (by decide)) (fun _ => T.g_is_whole) T.F_is_whole.kp T.b_is_whole (xa_cons (xd_v 7) xa_nil)) (xa_cons xd_bl xa_nil))))) (xw_or1 (xt_not (xt_tru (xd_call (fun _ => ok_law_told T) (fun _ => hr.mono (by decide)) (fun _ => T.g_law_told) T.F_law_told.kp T.b_law_told (xa_cons (xd_call (fun _ => ok_is_whole T) (fun _ => hr.mono (by decide)) (fun _ => T.g_is_whole) T.F_is_whole.kp T.b_is_whole (xa_cons (xd_cmp (opk_eq (fun _ => room65 hr)) ol_eq (xd_v 7) xd_int (nomark _)) xa_nil)) (xa_cons xd_bl xa_nil))))))))
      (xss_one (xs_ret xd_bl))
      xss_nil)
      (xss_cons (xs_if (XW.pt (xw_or (xt_not (xt_tru (xd_call (fun _ => ok_law_told T) (fun _ => hr.mono (by decide)) (fun _ => T.g_law_told) T.F_law_told.kp T.b_law_told (xa_cons (xd_call (fun _ => ok_is_whole T) (fun _ => hr.mono (by decide)) (fun _ => T.g_is_whole) T.F_is_whole.kp T.b_is_whole (xa_cons (xd_str1 (xa_cons (xd_mod (xd_v 7) xd_int) xa_nil) (fun _ => T.n_str)) xa_nil)) (xa_cons xd_bl xa_nil))))) (xw_or1 (xt_not (xt_tru (xd_call (fun _ => ok_law_told T) (fun _ => hr.mono (by decide)) (fun _ => T.g_law_told) T.F_law_told.kp T.b_law_told (xa_cons (xd_call (fun _ => ok_is_whole T) (fun _ => hr.mono (by decide)) (fun _ => T.g_is_whole) T.F_is_whole.kp T.b_is_whole (xa_cons xd_non xa_nil)) (xa_cons xd_bl xa_nil))))))))
      (xss_one (xs_ret xd_bl))
      xss_nil)
      (xss_cons (xs_if (xt_not (xt_tru (xd_v 5)))
      (xss_one (xs_ret (xd_call (fun _ => ok_law_refused T) (fun _ => hr.mono (by decide)) (fun _ => T.g_law_refused) T.F_law_refused.kp T.b_law_refused (xa_cons (xd_v 3) xa_nil))))
      xss_nil)
      (xss_cons (xs_asg (xd_callV (cl := a.cl) (fun _ => ok_need_word T) (fun _ => hr.mono (by decide)) (fun _ => T.g_need_word) T.F_need_word.kp T.b_need_word (xa_cons (xd_v 3) xa_nil)) (xg_name 8 (fun _ => sc_law.nd)))
      (xss_one (xs_ret (xd_and (xd_isi (Ty := "str") (xd_v 8) (fun _ => T.n_isinstance) (fun _ => T.n_str) (by decide +kernel)) (xd_one (xd_cmp (opk_eq (fun _ => room65 hr)) ol_eq (xd_v 8) (xd_v 3) (nomark _)))))))))))))))))))
end
def told (ns : List Int) (k : Int) : Int := if k < ns.length then ns.getD k.toNat 0 else 0
theorem run_rt {np nl : Nat} {m : M Out} {ds : List D} {d : D} (h1 : ds.length = np) (h2 : m (startF nl ds) = some (.rt d)) : runD np nl m ds = some d := by
  unfold runD
  rw [if_pos h1, h2]
  rfl
theorem told_eq (ns : List Int) (k : Int) (hk : 0 ≤ k) : G_law_told_at [.list (ns.map .int), .int k] = some (.int (told ns k)) := by
  refine run_rt rfl ?_
  unfold m_law_told_at told
  by_cases h : k < ns.length
  · have e1 : decide ((ns.length : Int) ≤ k) = false := decide_eq_false (by omega)
    rw [if_pos h]
    simp only [startF, mSeq, mIfS, mB, m2, m1, mVar, mA, mCons, mNil, mRet, mNext, mC, mAsg, gSet, mAnd, mOr, mNot, mTru, mL, mYes, mSl, mNo, mSo, mItL, mItT, wipeF, asB, List.map_cons, List.map_nil, List.length_map, List.length_cons, List.length_nil, Nat.sub_self, Nat.reduceAdd, Nat.reduceSub, Nat.reduceLT, Nat.zero_add, Nat.zero_lt_succ, List.replicate_zero, List.replicate_succ, List.append_nil, List.cons_append, List.nil_append, List.getElem?_cons_zero, List.getElem?_cons_succ, List.set_cons_zero, List.set_cons_succ, List.length_set, List.length_replicate, List.length_append, Option.bind_some, Option.map_some, Option.bind_none, Bool.false_eq_true, if_false, if_true, Bool.not_true, Bool.not_false, dLen, dGe, e1, dIx]
    unfold atI ixN
    rw [if_pos hk, List.length_map, if_pos h]
    simp only [Option.bind_some, List.getElem?_map]
    have hl : k.toNat < ns.length := by omega
    rw [List.getElem?_eq_getElem hl]
    simp [List.getD, hl]
  · have e1 : decide ((ns.length : Int) ≤ k) = true := decide_eq_true (by omega)
    rw [if_neg h]
    simp only [startF, mSeq, mIfS, mB, m2, m1, mVar, mA, mCons, mNil, mRet, mNext, mC, mAsg, gSet, mAnd, mOr, mNot, mTru, mL, mYes, mSl, mNo, mSo, mItL, mItT, wipeF, asB, List.map_cons, List.map_nil, List.length_map, List.length_cons, List.length_nil, Nat.sub_self, Nat.reduceAdd, Nat.reduceSub, Nat.reduceLT, Nat.zero_add, Nat.zero_lt_succ, List.replicate_zero, List.replicate_succ, List.append_nil, List.cons_append, List.nil_append, List.getElem?_cons_zero, List.getElem?_cons_succ, List.set_cons_zero, List.set_cons_succ, List.length_set, List.length_replicate, List.length_append, Option.bind_some, Option.map_some, Option.bind_none, Bool.false_eq_true, if_false, if_true, Bool.not_true, Bool.not_false, dLen, dGe, e1, dIx]
theorem atI_in {α : Type} {xs : List α} {i : Int} (h0 : 0 ≤ i) (h1 : i < xs.length) : atI xs i = xs[i.toNat]? := by
  unfold atI ixN
  rw [if_pos h0, if_pos h1]
  rfl
abbrev Ltr : Str := Str.ofString "abcdefghijklmnopqrstuvwxyz"
theorem ltr_list : Ltr.cps.toList = [97, 98, 99, 100, 101, 102, 103, 104, 105, 106, 107, 108, 109, 110, 111, 112, 113, 114, 115, 116, 117, 118, 119, 120, 121, 122] := by decide +kernel
theorem letter (i : Int) (h0 : 0 ≤ i) (h1 : i < 26) : dIx (.str Ltr) (.int i) = some (.str ⟨#[97 + i.toNat]⟩) := by
  have hl : Ltr.length ≤ sizeLine := by decide +kernel
  have e : atI Ltr.cps.toList i = some (97 + i.toNat) := by
    rw [ltr_list, atI_in h0 (by simpa using h1)]
    have hn : i.toNat < 26 := by omega
    generalize i.toNat = j at hn ⊢
    have key : ∀ j : Fin 26, ([97, 98, 99, 100, 101, 102, 103, 104, 105, 106, 107, 108, 109, 110, 111, 112, 113, 114, 115, 116, 117, 118, 119, 120, 121, 122] : List Nat)[j.1]? = some (97 + j.1) := by decide
    exact key ⟨j, hn⟩
  simp only [dIx, if_pos hl, e, Option.map_some]
abbrev one (c : Nat) : Str := ⟨#[c]⟩
theorem glue_one : ∀ (cs : List Nat) (a : Array Nat), ((cs.map one).foldl (fun acc p => acc ++ (Str.ofString "").cps ++ p.cps) a).toList = a.toList ++ cs
  | [], a => by simp
  | c :: cs, a => by
    have e0 : (Str.ofString "").cps = #[] := by decide +kernel
    rw [List.map_cons, List.foldl_cons, glue_one cs]
    rw [e0]
    simp
theorem join_one (cs : List Nat) : (Txt.join (Str.ofString "") (cs.map one)).cps.toList = cs := by
  unfold Txt.join Builtin.Str.glued
  cases cs with
  | nil => rfl
  | cons c cs =>
    exact (glue_one cs #[c]).trans rfl
theorem asStrs_of : ∀ ys : List Str, asStrs (ys.map PyData.str) = some ys
  | [] => rfl
  | y :: ys => by
    show (asStrs (ys.map PyData.str)).map (y :: ·) = _
    rw [asStrs_of ys]; rfl
theorem sum_one (cs : List Nat) : ((cs.map one).map (·.length)).sum = cs.length := by
  induction cs with
  | nil => rfl
  | cons c cs ih =>
    rw [List.map_cons, List.map_cons, List.sum_cons, ih]
    show 1 + cs.length = cs.length + 1
    omega
theorem cut_sub (z : Str) (lo hi : Option Int) : (cutS z lo hi).length ≤ z.length ∧ ∀ c ∈ (cutS z lo hi).cps.toList, c ∈ z.cps.toList := by
  unfold cutS
  constructor
  · show (List.toArray _).size ≤ z.cps.size
    rw [List.size_toArray, List.length_take, List.length_drop, Array.length_toList]
    omega
  · intro c hc
    exact List.mem_of_mem_drop (List.mem_of_mem_take hc)
theorem dEq_int (a b : Int) : dEq (.int a) (.int b) = some (.bool (a == b)) := by
  unfold dEq
  rw [if_pos (show (SeqAt.shaped (.int a) && SeqAt.shaped (.int b)) = true from rfl)]
  simp only [PyData.eqv]
theorem shaped_str {x : Str} (h : PyData.strOk x = true) : SeqAt.shaped (.str x) = true := by
  simp only [SeqAt.shaped, PyData.canLay0, PyData.depth, h, Bool.true_and]
  rfl
theorem dEq_str {a b : Str} (ha : PyData.strOk a = true) (hb : PyData.strOk b = true) : dEq (.str a) (.str b) = some (.bool (a == b)) := by
  unfold dEq
  rw [if_pos (by rw [shaped_str ha, shaped_str hb]; rfl)]
  simp only [PyData.eqv]
theorem okR_nat {n : Nat} (h : n ≤ 1000) : okR (n : Int) = true := by
  have h1 : -(2 ^ 62 : Int) ≤ 0 := by decide
  have h2 : (1000 : Int) < 2 ^ 62 := by decide
  exact okR_iff.mpr ⟨Int.le_trans h1 (Int.natCast_nonneg _), Int.lt_of_le_of_lt (by omega) h2⟩
theorem rng1_of {m : M D} {ρ : Fr} {n : Nat} (hl : n ≤ 1000) (h : m ρ = some (.int (n : Int))) : mRng1 m ρ = some (rngD 0 (n : Int)) := by
  unfold mRng1
  rw [h, Option.bind_some]
  exact if_pos (okR_nat hl)
def jD (j : Nat) : D := .int (0 + (j : Int))
theorem mAsg_eq {m : M D} {g : D → Fr → Option Fr} {ρ ρ' : Fr} {d : D} (h1 : m ρ = some d) (h2 : g d ρ = some ρ') : mAsg m g ρ = some (.nx ρ') := by
  unfold mAsg
  rw [h1, Option.bind_some, h2]
  rfl
theorem m2_eq {f : D → D → Option D} {a b : M D} {ρ : Fr} {x y d : D} (h1 : a ρ = some x) (h2 : b ρ = some y) (h3 : f x y = some d) : m2 f a b ρ = some d := by
  unfold m2
  rw [h1, Option.bind_some, h2, Option.bind_some, h3]
theorem m1_eq {f : D → Option D} {a : M D} {ρ : Fr} {x d : D} (h1 : a ρ = some x) (h3 : f x = some d) : m1 f a ρ = some d := by
  unfold m1
  rw [h1, Option.bind_some, h3]
theorem mA_eq {f : List D → Option D} {a : M (List D)} {ρ : Fr} {xs : List D} {d : D} (h1 : a ρ = some xs) (h3 : f xs = some d) : mA f a ρ = some d := by
  unfold mA
  rw [h1, Option.bind_some, h3]
theorem mCons_eq {a : M D} {r : M (List D)} {ρ : Fr} {x : D} {xs : List D} (h1 : a ρ = some x) (h2 : r ρ = some xs) : mCons a r ρ = some (x :: xs) := by
  unfold mCons
  rw [h1, Option.bind_some, h2, Option.bind_some]
theorem mL_eq {a : M (List D)} {ρ : Fr} {xs : List D} (h1 : a ρ = some xs) : mL a ρ = some (.list xs) := by
  unfold mL
  rw [h1]
  rfl
theorem mRet_eq {a : M D} {ρ : Fr} {d : D} (h1 : a ρ = some d) : mRet a ρ = some (.rt d) := by
  unfold mRet
  rw [h1]
  rfl
theorem mOwn_eq {a : M (List D)} {i : Nat} {ρ : Fr} {ds : List D} (h1 : a ρ = some ds) (hi : i < ρ.length) : mOwn a i ρ = some (.nx (ρ.set i (.ow ds))) := by
  unfold mOwn
  rw [h1, Option.bind_some, if_pos hi]
theorem mIfS_eq {c : M Bool} {a b : M Out} {ρ : Fr} {x : Bool} {o : Out} (h1 : c ρ = some x) (h2 : (if x = true then a ρ else b ρ) = some o) : mIfS c a b ρ = some o := by
  unfold mIfS
  rw [h1, Option.bind_some, h2]
theorem mSeq_nx {a b : M Out} {ρ ρ1 : Fr} (h : a ρ = some (.nx ρ1)) : mSeq a b ρ = b ρ1 := by
  unfold mSeq
  rw [h]
  rfl
theorem mTold {G : List D → Option D} {ρ : Fr} {s r : D} {i : Int} (h0 : mVar 0 ρ = some s) (h : G [s, .int i] = some r) : mA G (mCons (mVar 0) (mCons (mC (.int i)) mNil)) ρ = some r := mA_eq (mCons_eq h0 (mCons_eq rfl rfl)) h
theorem rng_all (n : Nat) : rngD 0 (n : Int) = (List.range n).map jD := by
  unfold rngD
  rw [Int.sub_zero, Int.toNat_natCast]
  rfl
/-! ### words -/
def okC (c : Nat) : Bool := decide (97 ≤ c) && decide (c ≤ 122)
theorem le_a (c : Nat) : dLe (.str (Str.ofString "a")) (.str (one c)) = some (.bool (decide (97 ≤ c))) := by
  have e : (Str.ofString "a").cps.toList = [97] := by decide +kernel
  unfold dLe
  simp only [e]
  congr 2
  by_cases h : 97 ≤ c
  · rw [decide_eq_true h]
    have : ¬ ((one c).cps.toList < [97]) := by
      show ¬ ([c] < [97])
      simp [List.cons_lt_cons_iff]
      omega
    rw [decide_eq_false this]; rfl
  · rw [decide_eq_false h]
    have : (one c).cps.toList < [97] := by
      show [c] < [97]
      simp [List.cons_lt_cons_iff]
      omega
    rw [decide_eq_true this]; rfl
theorem le_z (c : Nat) : dLe (.str (one c)) (.str (Str.ofString "z")) = some (.bool (decide (c ≤ 122))) := by
  have e : (Str.ofString "z").cps.toList = [122] := by decide +kernel
  unfold dLe
  simp only [e]
  congr 2
  by_cases h : c ≤ 122
  · rw [decide_eq_true h]
    have : ¬ ([122] < (one c).cps.toList) := by
      show ¬ ([122] < [c])
      simp [List.cons_lt_cons_iff]
      omega
    rw [decide_eq_false this]; rfl
  · rw [decide_eq_false h]
    have : [122] < (one c).cps.toList := by
      show [122] < [c]
      simp [List.cons_lt_cons_iff]
      omega
    rw [decide_eq_true this]; rfl
theorem in_ltr (c : Nat) : dIn (.str (one c)) (.str Ltr) = some (.bool (okC c)) := by
  unfold dIn
  show Option.map _ (some (decide (c ∈ Ltr.cps.toList))) = _
  rw [ltr_list]
  simp only [Option.map_some]
  congr 2
  unfold okC
  by_cases h : c ∈ ([97, 98, 99, 100, 101, 102, 103, 104, 105, 106, 107, 108, 109, 110, 111, 112, 113, 114, 115, 116, 117, 118, 119, 120, 121, 122] : List Nat)
  · rw [decide_eq_true h]
    simp only [List.mem_cons, List.not_mem_nil, or_false] at h
    rw [decide_eq_true (by omega : 97 ≤ c), decide_eq_true (by omega : c ≤ 122)]
    rfl
  · rw [decide_eq_false h]
    simp only [List.mem_cons, List.not_mem_nil, or_false, not_or] at h
    by_cases h1 : 97 ≤ c
    · rw [decide_eq_false (by omega : ¬ c ≤ 122), Bool.and_false]
    · rw [decide_eq_false h1, Bool.false_and]
theorem all_map (cs : List Nat) (f : Nat → Bool) : dAll [.list (cs.map fun c => .bool (f c))] = some (.bool (cs.all f)) := by
  unfold dAll
  have e : (cs.map fun c => PyData.bool (f c)) = (cs.map f).map PyData.bool := by rw [List.map_map]; rfl
  simp only [e, asBools_map, Option.map_some]
  rw [List.all_map]
  rfl
def wordD (x : Str) : Bool := decide (1 ≤ x.length) && decide (x.length ≤ 12) && x.cps.toList.all okC
theorem chain_len {a b : Int} {n : Nat} {f g : D → D → Option D} {p q : Bool} {mn : M D} {ρ : Fr} (h0 : mn ρ = some (.int n)) (h1 : f (.int a) (.int n) = some (.bool p)) (h2 : g (.int n) (.int b) = some (.bool q)) : mChain f g (mC (.int a)) mn (mC (.int b)) ρ = some (.bool (p && q)) := by
  unfold mChain mC
  simp only [Option.bind_some, h0, h1]
  cases p
  · rfl
  · simpa using h2
theorem isi_s (x : Str) : dIsi "str" (.str x) = some (.bool true) := rfl
theorem word_str (x : Str) (hx : x.length ≤ 1000) : G_is_word [.str x] = some (.bool (wordD x)) := by
  refine run_rt rfl ?_
  have sl : sizeLine = 16777216 := by decide
  have hl : dLen [.str x] = some (.int x.length) := if_pos (by omega)
  have hc : mChain dLe dLe (mC (.int 1)) (mA dLen (mCons (mVar 0) mNil)) (mC (.int 12)) [.va (.str x), .no] = some (.bool (decide (1 ≤ x.length) && decide (x.length ≤ 12))) := by
    refine chain_len (n := x.length) (mA_eq (mCons_eq rfl rfl) hl) ?_ ?_
    · show some (PyData.bool (decide ((1 : Int) ≤ (x.length : Nat)))) = _
      congr 2
      exact decide_eq_decide.mpr (by omega)
    · show some (PyData.bool (decide (((x.length : Nat) : Int) ≤ 12))) = _
      congr 2
      exact decide_eq_decide.mpr (by omega)
  have lc : mLc (mItS (mVar 0)) [1] (gSet 1) mYes (mChain dLe dLe (mC (.str "a")) (mVar 1) (mC (.str "z"))) [.va (.str x), .no] = some (x.cps.toList.map fun c => .bool (okC c)) := by
    refine mLc_map (l := x.cps.toList) (e := fun c => .str (one c)) rfl (by rw [Array.length_toList]; show x.length ≤ _; omega) fun c _ => ?_
    have h1 := le_a c
    have h2 := le_z c
    unfold turnD okC mChain
    by_cases h : 97 ≤ c
    · rw [decide_eq_true h] at h1 ⊢
      simp only [startF, mSeq, mIfS, mB, m2, m1, mVar, mA, mCons, mNil, mRet, mNext, mC, mAsg, gSet, mAnd, mOr, mNot, mTru, mL, mYes, mSl, mNo, mSo, mItL, mItT, wipeF, asB, List.map_cons, List.map_nil, List.length_map, List.length_cons, List.length_nil, Nat.sub_self, Nat.reduceAdd, Nat.reduceSub, Nat.reduceLT, Nat.zero_add, Nat.zero_lt_succ, List.replicate_zero, List.replicate_succ, List.append_nil, List.cons_append, List.nil_append, List.getElem?_cons_zero, List.getElem?_cons_succ, List.set_cons_zero, List.set_cons_succ, List.length_set, List.length_replicate, List.length_append, Option.bind_some, Option.map_some, Option.bind_none, Bool.false_eq_true, if_false, if_true, Bool.not_true, Bool.not_false, h1, h2, Bool.true_and]
    · rw [decide_eq_false h] at h1 ⊢
      simp only [startF, mSeq, mIfS, mB, m2, m1, mVar, mA, mCons, mNil, mRet, mNext, mC, mAsg, gSet, mAnd, mOr, mNot, mTru, mL, mYes, mSl, mNo, mSo, mItL, mItT, wipeF, asB, List.map_cons, List.map_nil, List.length_map, List.length_cons, List.length_nil, Nat.sub_self, Nat.reduceAdd, Nat.reduceSub, Nat.reduceLT, Nat.zero_add, Nat.zero_lt_succ, List.replicate_zero, List.replicate_succ, List.append_nil, List.cons_append, List.nil_append, List.getElem?_cons_zero, List.getElem?_cons_succ, List.set_cons_zero, List.set_cons_succ, List.length_set, List.length_replicate, List.length_append, Option.bind_some, Option.map_some, Option.bind_none, Bool.false_eq_true, if_false, if_true, Bool.not_true, Bool.not_false, h1, Bool.false_and]
  have t1 : mIfS (mOr (mNot (mTru (m1 (dIsi "str") (mVar 0)))) (mNot (mB (mChain dLe dLe (mC (.int 1)) (mA dLen (mCons (mVar 0) mNil)) (mC (.int 12)))))) (mRet (mC (.bool false))) mNext [.va (.str x), .no]
      = (if (decide (1 ≤ x.length) && decide (x.length ≤ 12)) = true then some (.nx [.va (.str x), .no]) else some (.rt (.bool false))) := by
    have e1 : mNot (mTru (m1 (dIsi "str") (mVar 0))) [.va (.str x), .no] = some false := by simp only [startF, mSeq, mIfS, mB, m2, m1, mVar, mA, mCons, mNil, mRet, mNext, mC, mAsg, gSet, mAnd, mOr, mNot, mTru, mL, mYes, mSl, mNo, mSo, mItL, mItT, wipeF, asB, List.map_cons, List.map_nil, List.length_map, List.length_cons, List.length_nil, Nat.sub_self, Nat.reduceAdd, Nat.reduceSub, Nat.reduceLT, Nat.zero_add, Nat.zero_lt_succ, List.replicate_zero, List.replicate_succ, List.append_nil, List.cons_append, List.nil_append, List.getElem?_cons_zero, List.getElem?_cons_succ, List.set_cons_zero, List.set_cons_succ, List.length_set, List.length_replicate, List.length_append, Option.bind_some, Option.map_some, Option.bind_none, Bool.false_eq_true, if_false, if_true, Bool.not_true, Bool.not_false, isi_s, dTru]
    have e2 : mNot (mB (mChain dLe dLe (mC (.int 1)) (mA dLen (mCons (mVar 0) mNil)) (mC (.int 12)))) [.va (.str x), .no] = some (!(decide (1 ≤ x.length) && decide (x.length ≤ 12))) := by
      unfold mNot mB
      rw [hc]
      rfl
    unfold mIfS mOr
    rw [e1, Option.bind_some, if_neg Bool.false_ne_true, e2, Option.bind_some]
    cases (decide (1 ≤ x.length) && decide (x.length ≤ 12)) <;> rfl
  unfold m_is_word
  show mSeq _ _ [.va (.str x), .no] = _
  unfold wordD
  cases hb : (decide (1 ≤ x.length) && decide (x.length ≤ 12)) with
  | true =>
    rw [hb, if_pos rfl] at t1
    rw [mSeq_nx t1, Bool.true_and]
    exact mRet_eq (mA_eq (mCons_eq (mL_eq lc) rfl) (all_map _ _))
  | false =>
    rw [hb, if_neg Bool.false_ne_true] at t1
    unfold mSeq
    rw [t1, Bool.false_and]
    rfl
theorem mSeq_rt {a b : M Out} {ρ : Fr} {d : D} (h : a ρ = some (.rt d)) : mSeq a b ρ = some (.rt d) := by
  unfold mSeq
  rw [h]
  rfl
theorem word_odd {d : D} (h : dIsi "str" d = some (.bool false)) : G_is_word [d] = some (.bool false) := by
  refine run_rt rfl ?_
  show mSeq _ _ [.va d, .no] = _
  have e1 : mNot (mTru (m1 (dIsi "str") (mVar 0))) [.va d, .no] = some true := by simp only [startF, mSeq, mIfS, mB, m2, m1, mVar, mA, mCons, mNil, mRet, mNext, mC, mAsg, gSet, mAnd, mOr, mNot, mTru, mL, mYes, mSl, mNo, mSo, mItL, mItT, wipeF, asB, List.map_cons, List.map_nil, List.length_map, List.length_cons, List.length_nil, Nat.sub_self, Nat.reduceAdd, Nat.reduceSub, Nat.reduceLT, Nat.zero_add, Nat.zero_lt_succ, List.replicate_zero, List.replicate_succ, List.append_nil, List.cons_append, List.nil_append, List.getElem?_cons_zero, List.getElem?_cons_succ, List.set_cons_zero, List.set_cons_succ, List.length_set, List.length_replicate, List.length_append, Option.bind_some, Option.map_some, Option.bind_none, Bool.false_eq_true, if_false, if_true, Bool.not_true, Bool.not_false, h, dTru]
  refine mSeq_rt ?_
  unfold mIfS mOr
  rw [e1]
  rfl
theorem need_no {d : D} (h : G_is_word [d] = some (.bool false)) : G_need_word [d] = some (.exc "NoWord") := by
  have e : mNot (mTru (mA G_is_word (mCons (mVar 0) mNil))) [.va d] = some true := by
    have e1 : mA G_is_word (mCons (mVar 0) mNil) [.va d] = some (.bool false) := mA_eq (mCons_eq rfl rfl) h
    unfold mNot mTru
    rw [e1]
    rfl
  have e2 : m_need_word [.va d] = some (.ex "NoWord" [.va d]) := by
    unfold m_need_word mSeq mIfS
    rw [e]
    rfl
  unfold G_need_word runX
  rw [if_pos (show [d].length = 1 from rfl)]
  show (m_need_word [.va d]).bind _ = _
  rw [e2]
  rfl
theorem need_yes {d : D} (h : G_is_word [d] = some (.bool true)) : mVal G_need_word [d] = some d := by
  have e : mNot (mTru (mA G_is_word (mCons (mVar 0) mNil))) [.va d] = some false := by
    have e1 : mA G_is_word (mCons (mVar 0) mNil) [.va d] = some (.bool true) := mA_eq (mCons_eq rfl rfl) h
    unfold mNot mTru
    rw [e1]
    rfl
  have e2 : m_need_word [.va d] = some (.rt d) := by
    unfold m_need_word mSeq mIfS
    rw [e]
    rfl
  have e3 : G_need_word [d] = some (.val d) := by
    unfold G_need_word runX
    rw [if_pos (show [d].length = 1 from rfl)]
    show (m_need_word [.va d]).bind _ = _
    rw [e2]
    rfl
  unfold mVal
  rw [e3]
  rfl
theorem is_raw {a : Addr} {b : Bool} {e : Ent} : mIs a 0 b [.raw a, e] = some (.bool b) := if_pos rfl
theorem dNe_int (a b : Int) : dNe (.int a) (.int b) = some (.bool (!(a == b))) := by
  unfold dNe
  rw [if_pos (show (SeqAt.shaped (.int a) && SeqAt.shaped (.int b)) = true from rfl)]
  simp only [PyData.eqv]
theorem kind_eq (a : Addr) : m_law_kind a (startR 2 a) = some (.rt (.int 0)) := by
  show m_law_kind a [.raw a, .no] = _
  have z3 : 3 ≤ sizeLine := by decide
  have z2 : 2 ≤ sizeLine := by decide
  have z5 : 5 ≤ sizeLine := by decide
  have h1 : mAsg (mA dLst (mCons (mIs a 0 true) (mCons (mIs a 0 false) (mCons (mIs a 0 false) mNil)))) (gSet 1) [.raw a, .no] = some (.nx [.raw a, .va (.list [.bool true, .bool false, .bool false])]) :=
    mAsg_eq (mA_eq (mCons_eq is_raw (mCons_eq is_raw (mCons_eq is_raw rfl))) (if_pos z3)) rfl
  have da : dAdd (.list [.bool true, .bool false, .bool false]) (.list [.bool false, .bool false]) = some (.list [.bool true, .bool false, .bool false, .bool false, .bool false]) := by
    simp only [dAdd]
    exact if_pos z5
  have h2 : mAsg (m2 dAdd (mVar 1) (mA dLst (mCons (mIs a 0 false) (mCons (mIs a 0 false) mNil)))) (gSet 1) [.raw a, .va (.list [.bool true, .bool false, .bool false])] = some (.nx [.raw a, .va (.list [.bool true, .bool false, .bool false, .bool false, .bool false])]) :=
    mAsg_eq (m2_eq rfl (mA_eq (mCons_eq is_raw (mCons_eq is_raw rfl)) (if_pos z2)) da) rfl
  have c1 : dCountB (.list [.bool true, .bool false, .bool false, .bool false, .bool false]) (.bool true) = some (.int 1) := rfl
  have c2 : dIndexB (.list [.bool true, .bool false, .bool false, .bool false, .bool false]) (.bool true) = some (.int 0) := rfl
  have h3 : mIfS (mOr (mB (m2 dNe (m2 dCountB (mVar 1) (mC (.bool true))) (mC (.int 1)))) (mNot (mTru (mIs a 0 true)))) (mRet (m1 dNeg (mC (.int 1)))) mNext [.raw a, .va (.list [.bool true, .bool false, .bool false, .bool false, .bool false])] = some (.nx [.raw a, .va (.list [.bool true, .bool false, .bool false, .bool false, .bool false])]) := by
    have e1 : mB (m2 dNe (m2 dCountB (mVar 1) (mC (.bool true))) (mC (.int 1))) [.raw a, .va (.list [.bool true, .bool false, .bool false, .bool false, .bool false])] = some false := by
      unfold mB
      rw [m2_eq (m2_eq rfl rfl c1) rfl (dNe_int 1 1)]
      rfl
    have e2 : mNot (mTru (mIs a 0 true)) [.raw a, .va (.list [.bool true, .bool false, .bool false, .bool false, .bool false])] = some false := by
      unfold mNot mTru
      rw [is_raw]
      rfl
    unfold mIfS mOr
    rw [e1, Option.bind_some, if_neg Bool.false_ne_true, e2]
    rfl
  exact (mSeq_nx h1).trans ((mSeq_nx h2).trans ((mSeq_nx h3).trans (mRet_eq (m2_eq rfl rfl c2))))
theorem refused_eq {d : D} (h : G_is_word [d] = some (.bool false)) : G_law_refused [d] = some (.bool true) := by
  refine run_rt rfl ?_
  show m_law_refused [.va d, .no] = _
  have hb : mExprX (mAX G_need_word (mCons (mVar 0) mNil)) [.va d, .no] = some (.ex "NoWord" [.va d, .no]) := by
    have e : mAX G_need_word (mCons (mVar 0) mNil) [.va d, .no] = some (.exc "NoWord") := by
      unfold mAX
      rw [mCons_eq (ρ := [.va d, .no]) (x := d) (xs := []) rfl rfl, Option.bind_some, need_no h]
    unfold mExprX
    rw [e]
    rfl
  refine mSeq_rt (mTry_rt hb (if_pos rfl) (by show 1 < 2; decide) fun a => ?_)
  show mRet (m2 dEq (mP 2 (fun ad => m_law_kind ad) a 1) (mC (.int 0))) [.va d, .raw a] = _
  have e : mP 2 (fun ad => m_law_kind ad) a 1 [.va d, .raw a] = some (.int 0) := by
    unfold mP
    show (if a = a then (m_law_kind a (startR 2 a)).bind _ else none) = _
    rw [if_pos rfl, kind_eq]
    rfl
  exact mRet_eq (m2_eq e rfl (dEq_int 0 0))
theorem whole_of {d : D} {a b : Bool} (h1 : dIsi "int" d = some (.bool a)) (h2 : dIsi "bool" d = some (.bool b)) : G_is_whole [d] = some (.bool (a && !b)) := by
  refine run_rt rfl ?_
  show mRet (mAndV (m1 (dIsi "int") (mVar 0)) (mNotV (m1 (dIsi "bool") (mVar 0)))) [.va d] = _
  refine mRet_eq ?_
  have e1 : m1 (dIsi "int") (mVar 0) [.va d] = some (.bool a) := m1_eq rfl h1
  have e2 : mNotV (m1 (dIsi "bool") (mVar 0)) [.va d] = some (.bool (!b)) := by
    unfold mNotV
    rw [m1_eq (ρ := [.va d]) (x := d) rfl h2]
    rfl
  unfold mAndV
  rw [e1, Option.bind_some]
  cases a
  · rfl
  · exact e2
theorem whole_int (i : Int) : G_is_whole [.int i] = some (.bool true) := whole_of (a := true) (b := false) rfl rfl
theorem whole_bool (b : Bool) : G_is_whole [.bool b] = some (.bool false) := whole_of (a := true) (b := true) rfl rfl
theorem whole_str (x : Str) : G_is_whole [.str x] = some (.bool false) := whole_of (a := false) (b := false) rfl rfl
theorem whole_none : G_is_whole [.none] = some (.bool false) := whole_of (a := false) (b := false) rfl rfl
theorem dEq_bool (a b : Bool) : dEq (.bool a) (.bool b) = some (.bool (a == b)) := by
  unfold dEq
  rw [if_pos (show (SeqAt.shaped (.bool a) && SeqAt.shaped (.bool b)) = true from rfl)]
  simp only [PyData.eqv]
theorem told_b (a b : Bool) : G_law_told [.bool a, .bool b] = some (.bool (a == b)) := by
  refine run_rt rfl ?_
  show mRet (mAndV (m1 (dIsi "bool") (mVar 0)) (m2 dEq (mVar 0) (mVar 1))) [.va (.bool a), .va (.bool b)] = _
  refine mRet_eq ?_
  unfold mAndV
  rw [m1_eq (ρ := [.va (.bool a), .va (.bool b)]) (x := .bool a) (d := .bool true) rfl rfl, Option.bind_some]
  exact m2_eq (x := .bool a) (y := .bool b) rfl rfl (dEq_bool a b)
theorem letters_eq : G_law_letters [] = some (.str Ltr) := rfl
theorem small_of {i : Int} (h0 : 0 ≤ i) (h1 : i ≤ 1000) : isSmall i = true := by
  have a : -(2 ^ 64 : Int) < 0 := by decide
  have b : (1000 : Int) < 2 ^ 64 := by decide
  unfold isSmall
  rw [decide_eq_true (Int.lt_of_lt_of_le a h0), decide_eq_true (Int.lt_of_le_of_lt h1 b)]
  rfl
theorem sign_eq (c : Int) : ∃ x : Nat, G_law_any_sign [.int c] = some (.str (one x)) := by
  let A : Str := Str.ofString " !\"#$&'()*+,-./:;<=>?\x40[\\]^_`{|}~"
  let B : Str := Str.ofString "0123456789"
  let U : Str := Txt.upper Ltr
  have la : A.length = 32 := by decide +kernel
  have lb : B.length = 10 := by decide +kernel
  have ll : Ltr.length = 26 := by decide +kernel
  have lu : U.length = 26 := by decide +kernel
  have sl : sizeLine = 16777216 := by decide
  have l1 : (A ++ B).length = 42 := by
    have : (A ++ B).length = A.length + B.length := Array.size_append ..
    omega
  have l2 : (A ++ B ++ Ltr).length = 68 := by
    have : (A ++ B ++ Ltr).length = (A ++ B).length + Ltr.length := Array.size_append ..
    omega
  have l3 : (A ++ B ++ Ltr ++ U).length = 94 := by
    have : (A ++ B ++ Ltr ++ U).length = (A ++ B ++ Ltr).length + U.length := Array.size_append ..
    omega
  have d1 : dAdd (.str A) (.str B) = some (.str (A ++ B)) := by
    simp only [dAdd]
    exact if_pos (by omega)
  have d2 : dAdd (.str (A ++ B)) (.str Ltr) = some (.str (A ++ B ++ Ltr)) := by
    simp only [dAdd]
    exact if_pos (by omega)
  have d3 : dAdd (.str (A ++ B ++ Ltr)) (.str U) = some (.str (A ++ B ++ Ltr ++ U)) := by
    simp only [dAdd]
    exact if_pos (by omega)
  have du : dUpper (.str Ltr) = some (.str U) := by
    simp only [dUpper]
    exact if_pos (by omega)
  have dl : dLen [.str (A ++ B ++ Ltr ++ U)] = some (.int 94) := by
    show (if (A ++ B ++ Ltr ++ U).length ≤ sizeLine then some (PyData.int ((A ++ B ++ Ltr ++ U).length : Nat)) else none) = _
    rw [if_pos (by omega), l3]
    rfl
  have p94 : (0 : Int) < 94 := by decide
  have dm : dMod (.int c) (.int 94) = some (.int (c % 94)) := by simp only [dMod, if_pos p94]
  have h0 : 0 ≤ c % 94 := Int.emod_nonneg _ (by decide)
  have h9 : c % 94 < 94 := Int.emod_lt_of_pos _ (by decide)
  obtain ⟨x, hx⟩ : ∃ x, dIx (.str (A ++ B ++ Ltr ++ U)) (.int (c % 94)) = some (.str (one x)) := by
    have hlen : (A ++ B ++ Ltr ++ U).cps.toList.length = 94 := l3
    obtain ⟨x, hx⟩ := some_at (xs := (A ++ B ++ Ltr ++ U).cps.toList) (i := (c % 94).toNat) (by omega)
    refine ⟨x, ?_⟩
    simp only [dIx]
    rw [if_pos (by omega), atI_in h0 (by omega), hx]
    rfl
  refine ⟨x, run_rt rfl ?_⟩
  have s1 : mAsg (m2 dAdd (mC (.str A)) (mC (.str B))) (gSet 1) [.va (.int c), .no, .no] = some (.nx [.va (.int c), .va (.str (A ++ B)), .no]) := mAsg_eq (m2_eq rfl rfl d1) rfl
  have s2 : mAsg (m2 dAdd (m2 dAdd (mVar 1) (mA G_law_letters mNil)) (m1 dUpper (mA G_law_letters mNil))) (gSet 2) [.va (.int c), .va (.str (A ++ B)), .no] = some (.nx [.va (.int c), .va (.str (A ++ B)), .va (.str (A ++ B ++ Ltr ++ U))]) :=
    mAsg_eq (m2_eq (m2_eq rfl (mA_eq rfl letters_eq) d2) (m1_eq (mA_eq rfl letters_eq) du) d3) rfl
  exact (mSeq_nx s1).trans ((mSeq_nx s2).trans (mRet_eq (m2_eq rfl (m2_eq rfl (mA_eq (mCons_eq rfl rfl) dl) dm) hx)))
theorem sIx_pos {n d : Nat} {a : Int} (h0 : 0 ≤ a) : HT.sIx n d (some a) = min a.toNat n := by
  show (if a < 0 then (a + n).toNat else min a.toNat n) = _
  rw [if_neg (by omega)]
theorem cut_len1 {z : Str} {a : Int} (h0 : 0 ≤ a) (h1 : a < z.length) : (cutS z none (some a)).length = a.toNat := by
  have e1 := sIx_pos (n := z.length) (d := z.length) h0
  have e2 : HT.sIx z.length 0 none = 0 := rfl
  have e3 : z.length = z.cps.size := rfl
  unfold cutS
  show (List.toArray _).size = _
  rw [List.size_toArray, List.length_take, List.length_drop, Array.length_toList, e1, e2]
  omega
theorem cut_len2 {z : Str} {a : Int} (h0 : 0 ≤ a) (h1 : a ≤ z.length) : (cutS z (some a) none).length = z.length - a.toNat := by
  have e1 := sIx_pos (n := z.length) (d := 0) h0
  have e2 : HT.sIx z.length z.length none = z.length := rfl
  have e3 : z.length = z.cps.size := rfl
  unfold cutS
  show (List.toArray _).size = _
  rw [List.size_toArray, List.length_take, List.length_drop, Array.length_toList, e1, e2]
  omega
theorem odd_eq (c : Int) : ∃ d, dIx (.list [.bool true, .int 5, .none, .str "", .tuple [.str "a"], .list [.str "a", .str "b"], .int 0]) (.int (c % 7)) = some d ∧ G_is_word [d] = some (.bool false) := by
  have h0 : 0 ≤ c % 7 := Int.emod_nonneg _ (by decide)
  have h7 : c % 7 < 7 := Int.emod_lt_of_pos _ (by decide)
  show ∃ d, atI [PyData.bool true, .int 5, .none, .str "", .tuple [.str "a"], .list [.str "a", .str "b"], .int 0] (c % 7) = some d ∧ _
  rw [atI_in h0 (by simpa using h7)]
  have hn : (c % 7).toNat < 7 := by omega
  generalize (c % 7).toNat = j at hn ⊢
  match j, hn with
  | 0, _ => exact ⟨_, rfl, word_odd rfl⟩
  | 1, _ => exact ⟨_, rfl, word_odd rfl⟩
  | 2, _ => exact ⟨_, rfl, word_odd rfl⟩
  | 3, _ =>
    refine ⟨_, rfl, ?_⟩
    rw [word_str _ (by decide +kernel)]
    congr 2
  | 4, _ => exact ⟨_, rfl, word_odd rfl⟩
  | 5, _ => exact ⟨_, rfl, word_odd rfl⟩
  | 6, _ => exact ⟨_, rfl, word_odd rfl⟩
theorem text0_eq {ns : List Int} {n : Nat} {st : Int} {e3 : Ent} (hn : n ≤ 14) (h0 : 0 ≤ st) (h1 : st ≤ 1000) : ∃ tl : Str, tl.length = n ∧ m2 dJoin (mC (.str "")) (mL (mLc (mRng1 (mVar 1)) [9] (gSet 9) mYes (m2 dIx (mA G_law_letters mNil) (m2 dMod (m2 dAdd (mA G_law_told_at (mCons (mVar 0) (mCons (mC (.int 1)) mNil))) (m2 dMul (mVar 9) (mVar 2))) (mC (.int 26))))))
    [.va (.list (ns.map .int)), .va (.int (n : Int)), .va (.int st), e3, .no, .no, .no, .no, .no, .no, .no] = some (.str tl) := by
  let cs : List Nat := (List.range n).map fun (i : Nat) => 97 + ((told ns 1 + (0 + (i : Int)) * st) % 26).toNat
  have csl : cs.length = n := by simp [cs]
  have tcs : (Txt.join (Str.ofString "") (cs.map one)).cps.toList = cs := join_one cs
  have sl : sizeLine = 16777216 := by decide
  refine ⟨Txt.join (Str.ofString "") (cs.map one), ?_, ?_⟩
  · show (Txt.join (Str.ofString "") (cs.map one)).cps.size = _
    rw [← Array.length_toList, tcs, csl]
  · have lc : mLc (mRng1 (mVar 1)) [9] (gSet 9) mYes (m2 dIx (mA G_law_letters mNil) (m2 dMod (m2 dAdd (mA G_law_told_at (mCons (mVar 0) (mCons (mC (.int 1)) mNil))) (m2 dMul (mVar 9) (mVar 2))) (mC (.int 26)))) [.va (.list (ns.map .int)), .va (.int (n : Int)), .va (.int st), e3, .no, .no, .no, .no, .no, .no, .no] = some ((cs.map one).map PyData.str) := by
      have e : (cs.map one).map PyData.str = (List.range n).map fun (i : Nat) => PyData.str (one (97 + ((told ns 1 + (0 + (i : Int)) * st) % 26).toNat)) := by simp [cs]
      rw [e]
      refine mLc_map (l := List.range n) (e := jD) ?_ (by rw [List.length_range]; omega) fun i _ => ?_
      · rw [rng1_of (n := n) (by omega) rfl, rng_all]
      · have s1 : isSmall st = true := small_of h0 h1
        have p26 : (0 : Int) < 26 := by decide
        have t1 := told_eq ns 1 (by decide)
        have lt := letter ((told ns 1 + (0 + (i : Int)) * st) % 26) (Int.emod_nonneg _ (by decide)) (Int.emod_lt_of_pos _ (by decide))
        have dm : dMul (jD i) (.int st) = some (.int ((0 + (i : Int)) * st)) := by
          show (if isSmall (0 + (i : Int)) || isSmall st then some (PyData.int ((0 + (i : Int)) * st)) else none) = _
          rw [s1, Bool.or_true, if_pos rfl]
        have dd : dMod (.int (told ns 1 + (0 + (i : Int)) * st)) (.int 26) = some (.int ((told ns 1 + (0 + (i : Int)) * st) % 26)) := by simp only [dMod, if_pos p26]
        have key : m2 dIx (mA G_law_letters mNil) (m2 dMod (m2 dAdd (mA G_law_told_at (mCons (mVar 0) (mCons (mC (.int 1)) mNil))) (m2 dMul (mVar 9) (mVar 2))) (mC (.int 26))) [.va (.list (ns.map .int)), .va (.int (n : Int)), .va (.int st), e3, .no, .no, .no, .no, .no, .va (jD i), .no] = some (.str (one (97 + ((told ns 1 + (0 + (i : Int)) * st) % 26).toNat))) :=
          m2_eq (mA_eq rfl letters_eq) (m2_eq (m2_eq (mTold rfl t1) (m2_eq rfl rfl dm) rfl) rfl dd) lt
        unfold turnD
        show (some _ : Option Fr).bind _ = _
        rw [Option.bind_some]
        show (some true : Option Bool).bind _ = _
        rw [Option.bind_some, if_pos rfl]
        exact congrArg (Option.map some) key
    refine m2_eq rfl (mL_eq lc) ?_
    unfold dJoin
    simp only [asStrs_map, Option.bind_some]
    rw [if_pos]
    have hz : (Str.ofString "").length = 0 := by decide +kernel
    rw [sum_one, hz, Nat.mul_zero, csl]
    omega
theorem mNT {m : M D} {ρ : Fr} (h : m ρ = some (.bool true)) : mNot (mTru m) ρ = some false := by
  unfold mNot mTru
  rw [h]
  rfl
theorem mNF {m : M D} {ρ : Fr} (h : m ρ = some (.bool false)) : mNot (mTru m) ρ = some true := by
  unfold mNot mTru
  rw [h]
  rfl
theorem mOr_f {a b : M Bool} {ρ : Fr} (h1 : a ρ = some false) (h2 : b ρ = some false) : mOr a b ρ = some false := by
  unfold mOr
  rw [h1, Option.bind_some, if_neg Bool.false_ne_true, h2]
theorem mIfS_f {c : M Bool} {a : M Out} {ρ : Fr} (h : c ρ = some false) : mIfS c a mNext ρ = some (.nx ρ) := by
  unfold mIfS
  rw [h, Option.bind_some, if_neg Bool.false_ne_true]
  rfl
theorem mIfS_t {c : M Bool} {a b : M Out} {ρ : Fr} {o : Out} (h : c ρ = some true) (h2 : a ρ = some o) : mIfS c a b ρ = some o := by
  unfold mIfS
  rw [h, Option.bind_some, if_pos rfl, h2]
theorem mB_eq {m : M D} {ρ : Fr} {b : Bool} (h : m ρ = some (.bool b)) : mB m ρ = some b := by
  unfold mB
  rw [h]
  rfl
theorem mAnd_eq {a b : M Bool} {ρ : Fr} {p q : Bool} (h1 : a ρ = some p) (h2 : b ρ = some q) : mAnd a b ρ = some (p && q) := by
  unfold mAnd
  rw [h1, Option.bind_some]
  cases p
  · rfl
  · simpa using h2
theorem mAndV_eq {a b : M D} {ρ : Fr} {p q : Bool} (h1 : a ρ = some (.bool p)) (h2 : b ρ = some (.bool q)) : mAndV a b ρ = some (.bool (p && q)) := by
  unfold mAndV
  rw [h1, Option.bind_some]
  cases p
  · rfl
  · simpa using h2
theorem due_eq {tx : Str} {n : Nat} (hl : tx.length = n) (hn : n ≤ 14) {ρ : Fr} (h1 : mVar 1 ρ = some (.int (n : Int))) (hlc : mLc (mItS (mVar 3)) [10] (gSet 10) mYes (m2 dIn (mVar 10) (mA G_law_letters mNil)) ρ = some (tx.cps.toList.map fun c => .bool (okC c))) :
    mAndV (mChain dLt dLt (mC (.int 0)) (mVar 1) (mC (.int 13))) (mA dAll (mCons (mL (mLc (mItS (mVar 3)) [10] (gSet 10) mYes (m2 dIn (mVar 10) (mA G_law_letters mNil)))) mNil)) ρ = some (.bool (wordD tx)) := by
  have e1 : mChain dLt dLt (mC (.int 0)) (mVar 1) (mC (.int 13)) ρ = some (.bool (decide (1 ≤ tx.length) && decide (tx.length ≤ 12))) := by
    refine chain_len (n := n) h1 ?_ ?_
    · show some (PyData.bool (decide ((0 : Int) < (n : Nat)))) = _
      congr 2
      exact decide_eq_decide.mpr (by omega)
    · show some (PyData.bool (decide (((n : Nat) : Int) < 13))) = _
      congr 2
      exact decide_eq_decide.mpr (by omega)
  have e2 : mA dAll (mCons (mL (mLc (mItS (mVar 3)) [10] (gSet 10) mYes (m2 dIn (mVar 10) (mA G_law_letters mNil)))) mNil) ρ = some (.bool (tx.cps.toList.all okC)) := mA_eq (mCons_eq (mL_eq hlc) rfl) (all_map _ _)
  exact mAndV_eq e1 e2
theorem lc_due {tx : Str} (hl : tx.length ≤ 14) {e0 e1 e2 e4 e5 e6 e7 e8 e9 e10 : Ent} : mLc (mItS (mVar 3)) [10] (gSet 10) mYes (m2 dIn (mVar 10) (mA G_law_letters mNil)) [e0, e1, e2, .va (.str tx), e4, e5, e6, e7, e8, e9, e10] = some (tx.cps.toList.map fun c => .bool (okC c)) := by
  have sl : sizeLine = 16777216 := by decide
  refine mLc_map (l := tx.cps.toList) (e := fun c => .str (one c)) rfl (by rw [Array.length_toList]; show tx.length ≤ _; omega) fun c _ => ?_
  have key : m2 dIn (mVar 10) (mA G_law_letters mNil) [e0, e1, e2, .va (.str tx), e4, e5, e6, e7, e8, e9, .va (.str (one c))] = some (.bool (okC c)) := m2_eq rfl (mA_eq rfl letters_eq) (in_ltr c)
  unfold turnD
  show (some _ : Option Fr).bind _ = _
  rw [Option.bind_some]
  show (some true : Option Bool).bind _ = _
  rw [Option.bind_some, if_pos rfl]
  exact congrArg (Option.map some) key
theorem strOk_word {x : Str} (h : wordD x = true) : PyData.strOk x = true := by
  unfold wordD at h
  rw [Bool.and_eq_true] at h
  unfold PyData.strOk
  show x.cps.all (fun c => decide (c < 1114112)) = true
  rw [← Array.all_toList, List.all_eq_true]
  intro c hc
  have h2 := List.all_eq_true.mp h.2 c hc
  unfold okC at h2
  rw [Bool.and_eq_true, decide_eq_true_iff, decide_eq_true_iff] at h2
  exact decide_eq_true (by omega)
theorem str_small {i : Int} (h0 : 0 ≤ i) (h1 : i < 1000) : ∃ x, dStr [.int i] = some (.str x) := by
  refine ⟨_, if_pos ?_⟩
  by_cases h : i.natAbs = 0
  · rw [h]; decide
  · rw [Nat.log2_lt h]
    have : (1000 : Nat) < 2 ^ 1920 := by
      have : (2 : Nat) ^ 10 ≤ 2 ^ 1920 := Nat.pow_le_pow_right (by decide) (by decide)
      omega
    omega
section
variable {s : D} {b : Int} {e1 e2 e3 e4 e5 e6 e7 e8 e9 e10 : Ent}
theorem q1 (t0 : G_law_told_at [s, .int 0] = some (.int b)) : mAsg (m2 dMod (mA G_law_told_at (mCons (mVar 0) (mCons (mC (.int 0)) mNil))) (mC (.int 15))) (gSet 1) [.va s, e1, e2, e3, e4, e5, e6, e7, e8, e9, e10] = some (.nx [.va s, .va (.int (b % 15)), e2, e3, e4, e5, e6, e7, e8, e9, e10]) := by
  have p : (0 : Int) < 15 := by decide
  exact mAsg_eq (m2_eq (mTold rfl t0) rfl (by simp only [dMod, if_pos p])) rfl
theorem q2 (t1 : G_law_told_at [s, .int 1] = some (.int b)) : mAsg (m2 dAdd (mC (.int 1)) (m2 dMod (m2 dFdiv (mA G_law_told_at (mCons (mVar 0) (mCons (mC (.int 1)) mNil))) (mC (.int 26))) (mC (.int 25)))) (gSet 2) [.va s, e1, e2, e3, e4, e5, e6, e7, e8, e9, e10] = some (.nx [.va s, e1, .va (.int (1 + b / 26 % 25)), e3, e4, e5, e6, e7, e8, e9, e10]) := by
  have p : (0 : Int) < 26 ∧ (26 : Int) < 1073741824 := by decide
  have p2 : (0 : Int) < 25 := by decide
  have d1 : dFdiv (.int b) (.int 26) = some (.int (b / 26)) := by simp only [dFdiv, if_pos p]
  have d2 : dMod (.int (b / 26)) (.int 25) = some (.int (b / 26 % 25)) := by simp only [dMod, if_pos p2]
  exact mAsg_eq (m2_eq rfl (m2_eq (m2_eq (mTold rfl t1) rfl d1) rfl d2) rfl) rfl
theorem q4 (t2 : G_law_told_at [s, .int 2] = some (.int b)) : mAsg (m2 dMod (m2 dFdiv (mA G_law_told_at (mCons (mVar 0) (mCons (mC (.int 2)) mNil))) (mC (.int 2))) (mC (.int 15))) (gSet 4) [.va s, e1, e2, e3, e4, e5, e6, e7, e8, e9, e10] = some (.nx [.va s, e1, e2, e3, .va (.int (b / 2 % 15)), e5, e6, e7, e8, e9, e10]) := by
  have p : (0 : Int) < 2 ∧ (2 : Int) < 1073741824 := by decide
  have p2 : (0 : Int) < 15 := by decide
  have d1 : dFdiv (.int b) (.int 2) = some (.int (b / 2)) := by simp only [dFdiv, if_pos p]
  have d2 : dMod (.int (b / 2)) (.int 15) = some (.int (b / 2 % 15)) := by simp only [dMod, if_pos p2]
  exact mAsg_eq (m2_eq (m2_eq (mTold rfl t2) rfl d1) rfl d2) rfl
theorem q5 {c at_ : Int} {n : Nat} {tl : Str} (t2 : G_law_told_at [s, .int 2] = some (.int b)) (t3 : G_law_told_at [s, .int 3] = some (.int c)) (hl : tl.length = n) (hn : n ≤ 14) (h0 : 0 ≤ at_) : ∃ tx : Str, tx.length = n ∧
    mIfS (mAnd (mB (m2 dEq (m2 dMod (mA G_law_told_at (mCons (mVar 0) (mCons (mC (.int 2)) mNil))) (mC (.int 2))) (mC (.int 1)))) (mB (m2 dLt (mVar 4) (mVar 1))))
      (mAsg (m2 dAdd (m2 dAdd (mSl (mVar 3) mNo (mSo (mVar 4))) (mA G_law_any_sign (mCons (mA G_law_told_at (mCons (mVar 0) (mCons (mC (.int 3)) mNil))) mNil))) (mSl (mVar 3) (mSo (m2 dAdd (mVar 4) (mC (.int 1)))) mNo)) (gSet 3)) mNext
      [.va s, .va (.int (n : Int)), e2, .va (.str tl), .va (.int at_), e5, e6, e7, e8, e9, e10] = some (.nx [.va s, .va (.int (n : Int)), e2, .va (.str tx), .va (.int at_), e5, e6, e7, e8, e9, e10]) := by
  have p2 : (0 : Int) < 2 := by decide
  have d2 : dMod (.int b) (.int 2) = some (.int (b % 2)) := by simp only [dMod, if_pos p2]
  have c1 : mAnd (mB (m2 dEq (m2 dMod (mA G_law_told_at (mCons (mVar 0) (mCons (mC (.int 2)) mNil))) (mC (.int 2))) (mC (.int 1)))) (mB (m2 dLt (mVar 4) (mVar 1))) [.va s, .va (.int (n : Int)), e2, .va (.str tl), .va (.int at_), e5, e6, e7, e8, e9, e10] = some ((b % 2 == 1) && decide (at_ < n)) :=
    mAnd_eq (mB_eq (m2_eq (m2_eq (mTold rfl t2) rfl d2) rfl (dEq_int _ _))) (mB_eq (m2_eq rfl rfl rfl))
  cases q : ((b % 2 == 1) && decide (at_ < (n : Int))) with
  | false =>
    rw [q] at c1
    exact ⟨tl, hl, mIfS_f c1⟩
  | true =>
    rw [q] at c1
    rw [Bool.and_eq_true, decide_eq_true_iff] at q
    have hlt := q.2
    obtain ⟨x, hx⟩ := sign_eq c
    have sl : sizeLine = 16777216 := by decide
    have k1 := cut_len1 (z := tl) h0 (by omega)
    have k2 := cut_len2 (z := tl) (a := at_ + 1) (by omega) (by omega)
    have l1 : (cutS tl none (some at_) ++ one x).length = at_.toNat + 1 := by
      have : (cutS tl none (some at_) ++ one x).length = (cutS tl none (some at_)).length + 1 := Array.size_append ..
      omega
    have l2 : (cutS tl none (some at_) ++ one x ++ cutS tl (some (at_ + 1)) none).length = n := by
      have : (cutS tl none (some at_) ++ one x ++ cutS tl (some (at_ + 1)) none).length = (cutS tl none (some at_) ++ one x).length + (cutS tl (some (at_ + 1)) none).length := Array.size_append ..
      omega
    have o1 : (one x).length = 1 := rfl
    have a1 : dAdd (.str (cutS tl none (some at_))) (.str (one x)) = some (.str (cutS tl none (some at_) ++ one x)) := by
      simp only [dAdd]
      exact if_pos (by omega)
    have a2 : dAdd (.str (cutS tl none (some at_) ++ one x)) (.str (cutS tl (some (at_ + 1)) none)) = some (.str (cutS tl none (some at_) ++ one x ++ cutS tl (some (at_ + 1)) none)) := by
      simp only [dAdd]
      exact if_pos (by omega)
    have b1 : dSl (.str tl) none (some at_) = some (.str (cutS tl none (some at_))) := if_pos (by omega)
    have b2 : dSl (.str tl) (some (at_ + 1)) none = some (.str (cutS tl (some (at_ + 1)) none)) := if_pos (by omega)
    refine ⟨cutS tl none (some at_) ++ one x ++ cutS tl (some (at_ + 1)) none, l2, mIfS_t c1 ?_⟩
    have s1 : mSl (mVar 3) mNo (mSo (mVar 4)) [.va s, .va (.int (n : Int)), e2, .va (.str tl), .va (.int at_), e5, e6, e7, e8, e9, e10] = some (.str (cutS tl none (some at_))) := b1
    have s2 : mSl (mVar 3) (mSo (m2 dAdd (mVar 4) (mC (.int 1)))) mNo [.va s, .va (.int (n : Int)), e2, .va (.str tl), .va (.int at_), e5, e6, e7, e8, e9, e10] = some (.str (cutS tl (some (at_ + 1)) none)) := b2
    exact mAsg_eq (m2_eq (m2_eq s1 (mA_eq (mCons_eq (mTold rfl t3) rfl) hx) a1) s2 a2) rfl
end
section
variable {s od tx' : D} {b num : Int} {e1 e2 e3 e4 e5 e6 e7 e8 e9 e10 : Ent} {tx : Str} {du : Bool}
theorem q7 (t4 : G_law_told_at [s, .int 4] = some (.int b)) (h : dIx (.list [.bool true, .int 5, .none, .str "", .tuple [.str "a"], .list [.str "a", .str "b"], .int 0]) (.int (b % 7)) = some od) :
    mAsg (m2 dIx (mA dLst (mCons (mC (.bool true)) (mCons (mC (.int 5)) (mCons (mC .none) (mCons (mC (.str "")) (mCons (mA dTup (mCons (mC (.str "a")) mNil)) (mCons (mA dLst (mCons (mC (.str "a")) (mCons (mC (.str "b")) mNil))) (mCons (mC (.int 0)) mNil)))))))) (m2 dMod (mA G_law_told_at (mCons (mVar 0) (mCons (mC (.int 4)) mNil))) (mC (.int 7)))) (gSet 6)
      [.va s, e1, e2, e3, e4, e5, e6, e7, e8, e9, e10] = some (.nx [.va s, e1, e2, e3, e4, e5, .va od, e7, e8, e9, e10]) := by
  have p : (0 : Int) < 7 := by decide
  have z1 : 1 ≤ sizeLine := by decide
  have z2 : 2 ≤ sizeLine := by decide
  have z7 : 7 ≤ sizeLine := by decide
  have d1 : dMod (.int b) (.int 7) = some (.int (b % 7)) := by simp only [dMod, if_pos p]
  have l1 : dTup [.str "a"] = some (.tuple [.str "a"]) := if_pos z1
  have l2 : dLst [.str "a", .str "b"] = some (.list [.str "a", .str "b"]) := if_pos z2
  have l3 : dLst [.bool true, .int 5, .none, .str "", .tuple [.str "a"], .list [.str "a", .str "b"], .int 0] = some (.list [.bool true, .int 5, .none, .str "", .tuple [.str "a"], .list [.str "a", .str "b"], .int 0]) := if_pos z7
  exact mAsg_eq (m2_eq (mA_eq (mCons_eq rfl (mCons_eq rfl (mCons_eq rfl (mCons_eq rfl (mCons_eq (mA_eq (mCons_eq rfl rfl) l1) (mCons_eq (mA_eq (mCons_eq rfl (mCons_eq rfl rfl)) l2) (mCons_eq rfl rfl))))))) l3) (m2_eq (mTold rfl t4) rfl d1) h) rfl
theorem q9 (h1 : G_is_word [.str tx] = some (.bool du)) (h2 : G_is_word [od] = some (.bool false)) :
    mIfS (mOr (mNot (mTru (mA G_law_told (mCons (mA G_is_word (mCons (mVar 3) mNil)) (mCons (mVar 5) mNil))))) (mOr (mNot (mTru (mA G_law_told (mCons (mA G_is_word (mCons (mVar 6) mNil)) (mCons (mC (.bool false)) mNil))))) (mNot (mTru (mA G_law_refused (mCons (mVar 6) mNil)))))) (mRet (mC (.bool false))) mNext
      [.va s, e1, e2, .va (.str tx), e4, .va (.bool du), .va od, e7, e8, e9, e10] = some (.nx [.va s, e1, e2, .va (.str tx), e4, .va (.bool du), .va od, e7, e8, e9, e10]) := by
  have t1 : G_law_told [.bool du, .bool du] = some (.bool true) := by rw [told_b]; simp
  have t2 : G_law_told [.bool false, .bool false] = some (.bool true) := by rw [told_b]; rfl
  exact mIfS_f (mOr_f (mNT (mA_eq (mCons_eq (mA_eq (mCons_eq rfl rfl) h1) (mCons_eq rfl rfl)) t1)) (mOr_f (mNT (mA_eq (mCons_eq (mA_eq (mCons_eq rfl rfl) h2) (mCons_eq rfl rfl)) t2)) (mNT (mA_eq (mCons_eq rfl rfl) (refused_eq h2)))))
theorem q10 : mIfS (mOr (mNot (mTru (mA G_law_told (mCons (mA G_is_whole (mCons (mVar 7) mNil)) (mCons (mC (.bool true)) mNil))))) (mNot (mTru (mA G_law_told (mCons (mA G_is_whole (mCons (m2 dEq (mVar 7) (mC (.int 5))) mNil)) (mCons (mC (.bool false)) mNil)))))) (mRet (mC (.bool false))) mNext
      [.va s, e1, e2, e3, e4, e5, e6, .va (.int num), e8, e9, e10] = some (.nx [.va s, e1, e2, e3, e4, e5, e6, .va (.int num), e8, e9, e10]) := by
  have t1 : G_law_told [.bool true, .bool true] = some (.bool true) := by rw [told_b]; rfl
  have t2 : G_law_told [.bool false, .bool false] = some (.bool true) := by rw [told_b]; rfl
  exact mIfS_f (mOr_f (mNT (mA_eq (mCons_eq (mA_eq (mCons_eq rfl rfl) (whole_int num)) (mCons_eq rfl rfl)) t1)) (mNT (mA_eq (mCons_eq (mA_eq (mCons_eq (m2_eq rfl rfl (dEq_int _ _)) rfl) (whole_bool _)) (mCons_eq rfl rfl)) t2)))
theorem q11 : mIfS (mOr (mNot (mTru (mA G_law_told (mCons (mA G_is_whole (mCons (mA dStr (mCons (m2 dMod (mVar 7) (mC (.int 1000))) mNil)) mNil)) (mCons (mC (.bool false)) mNil))))) (mNot (mTru (mA G_law_told (mCons (mA G_is_whole (mCons (mC .none) mNil)) (mCons (mC (.bool false)) mNil)))))) (mRet (mC (.bool false))) mNext
      [.va s, e1, e2, e3, e4, e5, e6, .va (.int num), e8, e9, e10] = some (.nx [.va s, e1, e2, e3, e4, e5, e6, .va (.int num), e8, e9, e10]) := by
  have t2 : G_law_told [.bool false, .bool false] = some (.bool true) := by rw [told_b]; rfl
  have p : (0 : Int) < 1000 := by decide
  have d1 : dMod (.int num) (.int 1000) = some (.int (num % 1000)) := by simp only [dMod, if_pos p]
  obtain ⟨x, hx⟩ := str_small (Int.emod_nonneg num (by decide : (1000 : Int) ≠ 0)) (Int.emod_lt_of_pos num p)
  exact mIfS_f (mOr_f (mNT (mA_eq (mCons_eq (mA_eq (mCons_eq (mA_eq (mCons_eq (m2_eq rfl rfl d1) rfl) hx) rfl) (whole_str x)) (mCons_eq rfl rfl)) t2)) (mNT (mA_eq (mCons_eq (mA_eq (mCons_eq rfl rfl) whole_none) (mCons_eq rfl rfl)) t2)))
theorem q12 (h1 : G_is_word [.str tx] = some (.bool (wordD tx))) :
    mSeq (mIfS (mNot (mTru (mVar 5))) (mRet (mA G_law_refused (mCons (mVar 3) mNil))) mNext) (mSeq (mAsg (mA (mVal G_need_word) (mCons (mVar 3) mNil)) (gSet 8)) (mRet (mAndV (m1 (dIsi "str") (mVar 8)) (m2 dEq (mVar 8) (mVar 3)))))
      [.va s, e1, e2, .va (.str tx), e4, .va (.bool (wordD tx)), e6, e7, e8, e9, e10] = some (.rt (.bool true)) := by
  cases q : wordD tx with
  | false =>
    rw [q] at h1
    exact mSeq_rt (mIfS_t (mNF rfl) (mRet_eq (mA_eq (mCons_eq rfl rfl) (refused_eq h1))))
  | true =>
    rw [q] at h1
    have ok := strOk_word q
    have d1 : dEq (.str tx) (.str tx) = some (.bool true) := by rw [dEq_str ok ok]; simp
    have r : mAndV (m1 (dIsi "str") (mVar 8)) (m2 dEq (mVar 8) (mVar 3)) [.va s, e1, e2, .va (.str tx), e4, .va (.bool true), e6, e7, .va (.str tx), e9, e10] = some (.bool (true && true)) := mAndV_eq (m1_eq rfl (isi_s tx)) (m2_eq rfl rfl d1)
    exact (mSeq_nx (mIfS_f (mNT rfl))).trans ((mSeq_nx (mAsg_eq (mA_eq (mCons_eq rfl rfl) (need_yes h1)) rfl)).trans (mRet_eq r))
end
theorem law_math (ns : List Int) (_ : ns.length ≤ 63) (_ : ∀ z ∈ ns, Builtin.Int.intBits z ≤ 1048576) : G_law [.list (ns.map .int)] = some (.bool true) := by
  have t0 := told_eq ns 0 (by decide)
  have t1 := told_eq ns 1 (by decide)
  have t2 := told_eq ns 2 (by decide)
  have t3 := told_eq ns 3 (by decide)
  have t4 := told_eq ns 4 (by decide)
  have t5 := told_eq ns 5 (by decide)
  have h0 : 0 ≤ told ns 0 % 15 := Int.emod_nonneg _ (by decide)
  have h1 : told ns 0 % 15 < 15 := Int.emod_lt_of_pos _ (by decide)
  have h2 : 0 ≤ told ns 1 / 26 % 25 := Int.emod_nonneg _ (by decide)
  have h3 : told ns 1 / 26 % 25 < 25 := Int.emod_lt_of_pos _ (by decide)
  have h4 : 0 ≤ told ns 2 / 2 % 15 := Int.emod_nonneg _ (by decide)
  obtain ⟨n, hn⟩ : ∃ n : Nat, (n : Int) = told ns 0 % 15 := ⟨(told ns 0 % 15).toNat, by omega⟩
  have hn2 : n ≤ 14 := by omega
  obtain ⟨tl, hl, x3⟩ := text0_eq (ns := ns) (n := n) (st := 1 + told ns 1 / 26 % 25) (e3 := .no) hn2 (by omega) (by omega)
  obtain ⟨tx, hx, x5⟩ := q5 (s := .list (ns.map .int)) (e2 := .va (.int (1 + told ns 1 / 26 % 25))) (e5 := .no) (e6 := .no) (e7 := .no) (e8 := .no) (e9 := .no) (e10 := .no) t2 t3 hl hn2 h4
  obtain ⟨od, hod, hw⟩ := odd_eq (told ns 4)
  have hword := word_str tx (by omega)
  refine run_rt rfl ?_
  have z0 : startF 11 [PyData.list (ns.map .int)] = [.va (.list (ns.map .int)), .no, .no, .no, .no, .no, .no, .no, .no, .no, .no] := rfl
  rw [z0]
  have x1 := q1 (s := .list (ns.map .int)) (e1 := .no) (e2 := .no) (e3 := .no) (e4 := .no) (e5 := .no) (e6 := .no) (e7 := .no) (e8 := .no) (e9 := .no) (e10 := .no) t0
  rw [← hn] at x1
  exact (mSeq_nx x1).trans ((mSeq_nx (q2 t1)).trans ((mSeq_nx (mAsg_eq x3 rfl)).trans ((mSeq_nx (q4 t2)).trans ((mSeq_nx x5).trans
    ((mSeq_nx (mAsg_eq (due_eq hx hn2 rfl (lc_due (by omega))) rfl)).trans ((mSeq_nx (q7 t4 hod)).trans ((mSeq_nx (mAsg_eq (mTold rfl t5) rfl)).trans ((mSeq_nx (q9 hword hw)).trans ((mSeq_nx q10).trans ((mSeq_nx q11).trans (q12 hword)))))))))))

theorem all_mk {P : Program} {w : World} {K : PySem.W.Frag} {h : Heap} {mg : Str → Option Value} {fa : Addr} (X : K.In h) (G : h.Ns mainGlobals mg) (hfa : mg "law" = some (.ref fa)) 
    {f0 : Addr} {od0 an0 : Option Addr} {sl0 : Array (Option Value)} {oc0 kV0 dc0 pm0 ct0 cd0 : Value} {f1 : Addr} {od1 an1 : Option Addr} {sl1 : Array (Option Value)} {oc1 kV1 dc1 pm1 ct1 cd1 : Value} {f2 : Addr} {od2 an2 : Option Addr} {sl2 : Array (Option Value)} {oc2 kV2 dc2 pm2 ct2 cd2 : Value} {f3 : Addr} {od3 an3 : Option Addr} {sl3 : Array (Option Value)} {oc3 kV3 dc3 pm3 ct3 cd3 : Value} {f4 : Addr} {od4 an4 : Option Addr} {sl4 : Array (Option Value)} {oc4 kV4 dc4 pm4 ct4 cd4 : Value} {f5 : Addr} {od5 an5 : Option Addr} {sl5 : Array (Option Value)} {oc5 kV5 dc5 pm5 ct5 cd5 : Value} {f6 : Addr} {od6 an6 : Option Addr} {sl6 : Array (Option Value)} {oc6 kV6 dc6 pm6 ct6 cd6 : Value} {f7 : Addr} {od7 an7 : Option Addr} {sl7 : Array (Option Value)} {oc7 kV7 dc7 pm7 ct7 cd7 : Value} {f8 : Addr} {od8 an8 : Option Addr} {sl8 : Array (Option Value)} {oc8 kV8 dc8 pm8 ct8 cd8 : Value} {f9 : Addr} {od9 an9 : Option Addr} {sl9 : Array (Option Value)} {oc9 kV9 dc9 pm9 ct9 cd9 : Value} {tk_MOST_SIGNS : Tok} {C_NoWord : Addr} {C_NoHandler : Addr} {C_Twice : Addr} {C_Stranger : Addr} {C_NoCount : Addr} {C_LoomError : Addr}
    (a0 : PySem.W.nsIn K mainGlobals "is_whole" = some (some (.ref f0)))
    (l0 : K.lookup f0 = some ⟨oc0, od0, .func (PySem.W.fnOf "is_whole" "is_whole" (defArgs s_is_whole) (defBody s_is_whole) (defScope s_is_whole) .none kV0 dc0 pm0 an0 cd0 ct0), sl0⟩)
    (c0 : PySem.W.codeIn K cd0 "is_whole" = true) (k0 : PySem.W.keepIn K (.ref f0) = true)
    (a1 : PySem.W.nsIn K mainGlobals "is_word" = some (some (.ref f1)))
    (l1 : K.lookup f1 = some ⟨oc1, od1, .func (PySem.W.fnOf "is_word" "is_word" (defArgs s_is_word) (defBody s_is_word) (defScope s_is_word) .none kV1 dc1 pm1 an1 cd1 ct1), sl1⟩)
    (c1 : PySem.W.codeIn K cd1 "is_word" = true) (k1 : PySem.W.keepIn K (.ref f1) = true)
    (a2 : PySem.W.nsIn K mainGlobals "need_word" = some (some (.ref f2)))
    (l2 : K.lookup f2 = some ⟨oc2, od2, .func (PySem.W.fnOf "need_word" "need_word" (defArgs s_need_word) (defBody s_need_word) (defScope s_need_word) .none kV2 dc2 pm2 an2 cd2 ct2), sl2⟩)
    (c2 : PySem.W.codeIn K cd2 "need_word" = true) (k2 : PySem.W.keepIn K (.ref f2) = true)
    (a3 : PySem.W.nsIn K mainGlobals "_law_told_at" = some (some (.ref f3)))
    (l3 : K.lookup f3 = some ⟨oc3, od3, .func (PySem.W.fnOf "_law_told_at" "_law_told_at" (defArgs s_law_told_at) (defBody s_law_told_at) (defScope s_law_told_at) .none kV3 dc3 pm3 an3 cd3 ct3), sl3⟩)
    (c3 : PySem.W.codeIn K cd3 "_law_told_at" = true) (k3 : PySem.W.keepIn K (.ref f3) = true)
    (a4 : PySem.W.nsIn K mainGlobals "_law_letters" = some (some (.ref f4)))
    (l4 : K.lookup f4 = some ⟨oc4, od4, .func (PySem.W.fnOf "_law_letters" "_law_letters" (defArgs s_law_letters) (defBody s_law_letters) (defScope s_law_letters) .none kV4 dc4 pm4 an4 cd4 ct4), sl4⟩)
    (c4 : PySem.W.codeIn K cd4 "_law_letters" = true) (k4 : PySem.W.keepIn K (.ref f4) = true)
    (a5 : PySem.W.nsIn K mainGlobals "_law_any_sign" = some (some (.ref f5)))
    (l5 : K.lookup f5 = some ⟨oc5, od5, .func (PySem.W.fnOf "_law_any_sign" "_law_any_sign" (defArgs s_law_any_sign) (defBody s_law_any_sign) (defScope s_law_any_sign) .none kV5 dc5 pm5 an5 cd5 ct5), sl5⟩)
    (c5 : PySem.W.codeIn K cd5 "_law_any_sign" = true) (k5 : PySem.W.keepIn K (.ref f5) = true)
    (a6 : PySem.W.nsIn K mainGlobals "_law_kind" = some (some (.ref f6)))
    (l6 : K.lookup f6 = some ⟨oc6, od6, .func (PySem.W.fnOf "_law_kind" "_law_kind" (defArgs s_law_kind) (defBody s_law_kind) (defScope s_law_kind) .none kV6 dc6 pm6 an6 cd6 ct6), sl6⟩)
    (c6 : PySem.W.codeIn K cd6 "_law_kind" = true) (k6 : PySem.W.keepIn K (.ref f6) = true)
    (a7 : PySem.W.nsIn K mainGlobals "_law_refused" = some (some (.ref f7)))
    (l7 : K.lookup f7 = some ⟨oc7, od7, .func (PySem.W.fnOf "_law_refused" "_law_refused" (defArgs s_law_refused) (defBody s_law_refused) (defScope s_law_refused) .none kV7 dc7 pm7 an7 cd7 ct7), sl7⟩)
    (c7 : PySem.W.codeIn K cd7 "_law_refused" = true) (k7 : PySem.W.keepIn K (.ref f7) = true)
    (a8 : PySem.W.nsIn K mainGlobals "_law_told" = some (some (.ref f8)))
    (l8 : K.lookup f8 = some ⟨oc8, od8, .func (PySem.W.fnOf "_law_told" "_law_told" (defArgs s_law_told) (defBody s_law_told) (defScope s_law_told) .none kV8 dc8 pm8 an8 cd8 ct8), sl8⟩)
    (c8 : PySem.W.codeIn K cd8 "_law_told" = true) (k8 : PySem.W.keepIn K (.ref f8) = true)
    (a9 : PySem.W.nsIn K mainGlobals "law" = some (some (.ref f9)))
    (l9 : K.lookup f9 = some ⟨oc9, od9, .func (PySem.W.fnOf "law" "law" (defArgs s_law) (defBody s_law) (defScope s_law) .none kV9 dc9 pm9 an9 cd9 ct9), sl9⟩)
    (c9 : PySem.W.codeIn K cd9 "law" = true) (k9 : PySem.W.keepIn K (.ref f9) = true)
    (z_isinstance : PySem.W.nsIn K mainGlobals "isinstance" = some none)
    (z_int : PySem.W.nsIn K mainGlobals "int" = some none)
    (z_bool : PySem.W.nsIn K mainGlobals "bool" = some none)
    (z_str : PySem.W.nsIn K mainGlobals "str" = some none)
    (z_len : PySem.W.nsIn K mainGlobals "len" = some none)
    (z_all : PySem.W.nsIn K mainGlobals "all" = some none)
    (z_ValueError : PySem.W.nsIn K mainGlobals "ValueError" = some none)
    (z_range : PySem.W.nsIn K mainGlobals "range" = some none)
    (g_MOST_SIGNS : PySem.W.nsIn K mainGlobals "MOST_SIGNS" = some (some (.int 12 tk_MOST_SIGNS)))
    (h_NoWord : PySem.W.nsIn K mainGlobals "NoWord" = some (some (.ref C_NoWord))) (ic_NoWord : PySem.W.isClsIn K C_NoWord = true)
    (h_NoHandler : PySem.W.nsIn K mainGlobals "NoHandler" = some (some (.ref C_NoHandler))) (ic_NoHandler : PySem.W.isClsIn K C_NoHandler = true)
    (tc_NoHandler : PySem.W.typeIn K (.ref C_NoHandler) = some (.type "type"))
    (h_Twice : PySem.W.nsIn K mainGlobals "Twice" = some (some (.ref C_Twice))) (ic_Twice : PySem.W.isClsIn K C_Twice = true)
    (tc_Twice : PySem.W.typeIn K (.ref C_Twice) = some (.type "type"))
    (h_Stranger : PySem.W.nsIn K mainGlobals "Stranger" = some (some (.ref C_Stranger))) (ic_Stranger : PySem.W.isClsIn K C_Stranger = true)
    (tc_Stranger : PySem.W.typeIn K (.ref C_Stranger) = some (.type "type"))
    (h_NoCount : PySem.W.nsIn K mainGlobals "NoCount" = some (some (.ref C_NoCount))) (ic_NoCount : PySem.W.isClsIn K C_NoCount = true)
    (tc_NoCount : PySem.W.typeIn K (.ref C_NoCount) = some (.type "type"))
    (h_LoomError : PySem.W.nsIn K mainGlobals "LoomError" = some (some (.ref C_LoomError))) (ic_LoomError : PySem.W.isClsIn K C_LoomError = true)
    (tc_LoomError : PySem.W.typeIn K (.ref C_LoomError) = some (.type "type"))
    (xc_NoWord : PySem.W.excIn K C_NoWord [Value.type "ValueError", Value.type "Exception", Value.type "BaseException", Value.type "object"] "ValueError.__new__" = true)
    (kc_NoWord : PySem.W.keepIn K (.ref C_NoWord) = true)
    (sc_NoWord : PySem.W.subIn K (.ref C_NoWord) (.type "BaseException") = some true)
    (tc_NoWord : PySem.W.typeIn K (.ref C_NoWord) = some (.type "type"))
    (e1_NoWord : PySem.W.findIn K (.ref C_NoWord) "__getattribute__" = some (some (.builtin "BaseException.__getattribute__")))
    (e2_NoWord : PySem.W.findIn K (.ref C_NoWord) "__getattr__" = some none)
    (e4_NoWord : PySem.W.hasDictIn K C_NoWord = true)
    (e5_NoWord : PySem.W.findIn K (.ref C_NoWord) "__class__" = some (some (.builtin "object.__class__")))
    (e6_NoWord : PySem.W.specialIn K (.builtin "object.__class__") "__get__" = some (some (.builtin "getset_descriptor.__get__")))
    (e7_NoWord : PySem.W.takesIn K (.builtin "object.__class__") = some true)
    (e8_NoWord : PySem.W.mroIn K C_NoWord (.type "object") = some true)
    (sub_NoWord_NoWord : PySem.W.subIn K (.ref C_NoWord) (.ref C_NoWord) = some true)
    (sub_NoWord_NoHandler : PySem.W.subIn K (.ref C_NoWord) (.ref C_NoHandler) = some false)
    (sub_NoWord_Twice : PySem.W.subIn K (.ref C_NoWord) (.ref C_Twice) = some false)
    (sub_NoWord_Stranger : PySem.W.subIn K (.ref C_NoWord) (.ref C_Stranger) = some false)
    (sub_NoWord_NoCount : PySem.W.subIn K (.ref C_NoWord) (.ref C_NoCount) = some false)
    (sub_NoWord_ValueError : PySem.W.subIn K (.ref C_NoWord) (.type "ValueError") = some true)
    (sub_NoWord_LoomError : PySem.W.subIn K (.ref C_NoWord) (.ref C_LoomError) = some true)
    (sc_LoomError : PySem.W.subIn K (.ref C_LoomError) (.type "BaseException") = some true) :
    ∃ (cs : List (Addr × Addr)) (T : List (Addr × Str)) (fd : FuncData), (∀ p ∈ cs, h.get? p.2 = some { cls := Value.none, data := Data.fields #[] }) ∧ (∀ p ∈ cs, K.lookup p.2 = none) ∧ (∀ p ∈ cs, PySem.W.CodeHd h p.1 p.2) ∧ (∀ t ∈ T, ∃ p ∈ cs, p.2 = t.1) ∧
      (∀ (s : Shared) (u : Value), BindsTo s fd ⟨[u], []⟩ [("_law_script", u)]) ∧ ∀ base : Heap, K.In base → base.Ns mainGlobals mg → (∀ p ∈ cs, LamX.TabB base mg p.1 p.2) → FnOk P w K mg base CX0 4 fa fd ["_law_script"] (spEnd T K 63) := by
  have e := hfa.symm.trans (PySem.W.mg_of X G a9)
  cases e
  have F0 := fun_mk (st := s_is_whole) l0 c0 k0
  have b0 := F0.binds (ps := ["thing"]) fun _ _ _ _ _ _ us hl => match us, hl with | [_], _ => rfl
  have F1 := fun_mk (st := s_is_word) l1 c1 k1
  have b1 := F1.binds (ps := ["thing"]) fun _ _ _ _ _ _ us hl => match us, hl with | [_], _ => rfl
  have F2 := fun_mk (st := s_need_word) l2 c2 k2
  have b2 := F2.binds (ps := ["thing"]) fun _ _ _ _ _ _ us hl => match us, hl with | [_], _ => rfl
  have F3 := fun_mk (st := s_law_told_at) l3 c3 k3
  have b3 := F3.binds (ps := ["_law_script", "_law_place"]) fun _ _ _ _ _ _ us hl => match us, hl with | [_, _], _ => rfl
  have F4 := fun_mk (st := s_law_letters) l4 c4 k4
  have b4 := F4.binds (ps := []) fun _ _ _ _ _ _ us hl => match us, hl with | [], _ => rfl
  have F5 := fun_mk (st := s_law_any_sign) l5 c5 k5
  have b5 := F5.binds (ps := ["_law_cell"]) fun _ _ _ _ _ _ us hl => match us, hl with | [_], _ => rfl
  have F6 := fun_mk (st := s_law_kind) l6 c6 k6
  have b6 := F6.binds (ps := ["_law_error"]) fun _ _ _ _ _ _ us hl => match us, hl with | [_], _ => rfl
  have F7 := fun_mk (st := s_law_refused) l7 c7 k7
  have b7 := F7.binds (ps := ["_law_thing"]) fun _ _ _ _ _ _ us hl => match us, hl with | [_], _ => rfl
  have F8 := fun_mk (st := s_law_told) l8 c8 k8
  have b8 := F8.binds (ps := ["_law_found", "_law_due"]) fun _ _ _ _ _ _ us hl => match us, hl with | [_, _], _ => rfl
  have F9 := fun_mk (st := s_law) l9 c9 k9
  have b9 := F9.binds (ps := ["_law_script"]) fun _ _ _ _ _ _ us hl => match us, hl with | [_], _ => rfl
  refine ⟨[], [], PySem.W.fnOf "law" "law" (defArgs s_law) (defBody s_law) (defScope s_law) .none kV9 dc9 pm9 an9 cd9 ct9, ?_, ?_, ?_, ?_, (fun s v => .of_eq rfl), fun base _ _ tbs => ?_⟩
  · intro p hp; cases hp
  · intro p hp; cases hp
  · intro p hp; cases hp
  · intro p hp; cases hp
  have T : Tx K mg base [] { f_is_whole := f0, d_is_whole := _, f_is_word := f1, d_is_word := _, f_need_word := f2, d_need_word := _, f_law_told_at := f3, d_law_told_at := _, f_law_letters := f4, d_law_letters := _, f_law_any_sign := f5, d_law_any_sign := _, f_law_kind := f6, d_law_kind := _, f_law_refused := f7, d_law_refused := _, f_law_told := f8, d_law_told := _, f_law := fa, d_law := _, cl := fun n => (([("NoWord", C_NoWord), ("NoHandler", C_NoHandler), ("Twice", C_Twice), ("Stranger", C_Stranger), ("NoCount", C_NoCount), ("LoomError", C_LoomError)] : List (Str × Addr)).lookup n).getD 0 } := {
    F_is_whole := F0,
    g_is_whole := PySem.W.mg_of X G a0,
    b_is_whole := b0,
    F_is_word := F1,
    g_is_word := PySem.W.mg_of X G a1,
    b_is_word := b1,
    F_need_word := F2,
    g_need_word := PySem.W.mg_of X G a2,
    b_need_word := b2,
    F_law_told_at := F3,
    g_law_told_at := PySem.W.mg_of X G a3,
    b_law_told_at := b3,
    F_law_letters := F4,
    g_law_letters := PySem.W.mg_of X G a4,
    b_law_letters := b4,
    F_law_any_sign := F5,
    g_law_any_sign := PySem.W.mg_of X G a5,
    b_law_any_sign := b5,
    F_law_kind := F6,
    g_law_kind := PySem.W.mg_of X G a6,
    b_law_kind := b6,
    F_law_refused := F7,
    g_law_refused := PySem.W.mg_of X G a7,
    b_law_refused := b7,
    F_law_told := F8,
    g_law_told := PySem.W.mg_of X G a8,
    b_law_told := b8,
    F_law := F9,
    g_law := PySem.W.mg_of X G a9,
    b_law := b9,
    n_isinstance := PySem.W.mg_none_of X G z_isinstance,
    n_int := PySem.W.mg_none_of X G z_int,
    n_bool := PySem.W.mg_none_of X G z_bool,
    n_str := PySem.W.mg_none_of X G z_str,
    n_len := PySem.W.mg_none_of X G z_len,
    n_all := PySem.W.mg_none_of X G z_all,
    n_ValueError := PySem.W.mg_none_of X G z_ValueError,
    n_range := PySem.W.mg_none_of X G z_range,
    c_MOST_SIGNS := ⟨_, PySem.W.mg_of X G g_MOST_SIGNS⟩,
    xc_NoWord := xc_NoWord,
    kc_NoWord := kc_NoWord,
    sc_NoWord := sc_NoWord,
    tc_NoWord := tc_NoWord,
    ec_NoWord := ⟨e1_NoWord, e2_NoWord, sc_NoWord, e4_NoWord, e5_NoWord, e6_NoWord, e7_NoWord, e8_NoWord⟩,
    gc_NoWord := PySem.W.mg_of X G h_NoWord,
    gc_NoHandler := PySem.W.mg_of X G h_NoHandler,
    gc_Twice := PySem.W.mg_of X G h_Twice,
    gc_Stranger := PySem.W.mg_of X G h_Stranger,
    gc_NoCount := PySem.W.mg_of X G h_NoCount,
    gc_LoomError := PySem.W.mg_of X G h_LoomError,
    kit_NoWord_NoWord := kit_own ic_NoWord tc_NoWord sub_NoWord_NoWord sub_NoWord_NoWord,
    kit_NoWord_NoHandler := kit_own ic_NoHandler tc_NoHandler sub_NoWord_NoHandler sub_NoWord_NoWord,
    kit_NoWord_Twice := kit_own ic_Twice tc_Twice sub_NoWord_Twice sub_NoWord_NoWord,
    kit_NoWord_Stranger := kit_own ic_Stranger tc_Stranger sub_NoWord_Stranger sub_NoWord_NoWord,
    kit_NoWord_NoCount := kit_own ic_NoCount tc_NoCount sub_NoWord_NoCount sub_NoWord_NoWord,
    kit_NoWord_ValueError := kit_tyE (by decide +kernel) sub_NoWord_ValueError,
    exm_NoWord_LoomError := exm_own sc_LoomError ic_LoomError tc_LoomError sub_NoWord_LoomError }
  exact end_ok (ok_law (P := P) (w := w) T) law_math
end Lw
open PySem PySem.W PyProof.Rows
set_option maxRecDepth 100000 in
set_option maxHeartbeats 0 in
theorem PySem.Challenge.cw_eventloom_k01_words_holds : PySem.Challenge.rw_eventloom_k01_words.Holds := by
  w_on; o_law; k_head; (case hw => w_witness2)
  k_fill
  refine Pd.walkT (l := PySem.Challenge.rw_eventloom_k01_words) (k := 4) (x := "_law_script") rfl rfl ⟨rfl, by decide, by decide⟩ (fun w h Y => PySem.W.kIn_of Y) ?F
  case F =>
    intro w mg fa h Y KX G hmg
    refine' Lw.all_mk KX G hmg ?a0 ?l0 ?c0 ?k0 ?a1 ?l1 ?c1 ?k1 ?a2 ?l2 ?c2 ?k2 ?a3 ?l3 ?c3 ?k3 ?a4 ?l4 ?c4 ?k4 ?a5 ?l5 ?c5 ?k5 ?a6 ?l6 ?c6 ?k6 ?a7 ?l7 ?c7 ?k7 ?a8 ?l8 ?c8 ?k8 ?a9 ?l9 ?c9 ?k9 ?z_isinstance ?z_int ?z_bool ?z_str ?z_len ?z_all ?z_ValueError ?z_range ?g_MOST_SIGNS ?h_NoWord ?ic_NoWord ?h_NoHandler ?ic_NoHandler ?tc_NoHandler ?h_Twice ?ic_Twice ?tc_Twice ?h_Stranger ?ic_Stranger ?tc_Stranger ?h_NoCount ?ic_NoCount ?tc_NoCount ?h_LoomError ?ic_LoomError ?tc_LoomError ?xc_NoWord ?kc_NoWord ?sc_NoWord ?tc_NoWord ?e1_NoWord ?e2_NoWord ?e4_NoWord ?e5_NoWord ?e6_NoWord ?e7_NoWord ?e8_NoWord ?sub_NoWord_NoWord ?sub_NoWord_NoHandler ?sub_NoWord_Twice ?sub_NoWord_Stranger ?sub_NoWord_NoCount ?sub_NoWord_ValueError ?sub_NoWord_LoomError ?sc_LoomError
    (case a0 => k_is)
    (case l0 => k_is)
    (case c0 => k_is)
    (case k0 => k_is)
    (case a1 => k_is)
    (case l1 => k_is)
    (case c1 => k_is)
    (case k1 => k_is)
    (case a2 => k_is)
    (case l2 => k_is)
    (case c2 => k_is)
    (case k2 => k_is)
    (case a3 => k_is)
    (case l3 => k_is)
    (case c3 => k_is)
    (case k3 => k_is)
    (case a4 => k_is)
    (case l4 => k_is)
    (case c4 => k_is)
    (case k4 => k_is)
    (case a5 => k_is)
    (case l5 => k_is)
    (case c5 => k_is)
    (case k5 => k_is)
    (case a6 => k_is)
    (case l6 => k_is)
    (case c6 => k_is)
    (case k6 => k_is)
    (case a7 => k_is)
    (case l7 => k_is)
    (case c7 => k_is)
    (case k7 => k_is)
    (case a8 => k_is)
    (case l8 => k_is)
    (case c8 => k_is)
    (case k8 => k_is)
    (case a9 => k_is)
    (case l9 => k_is)
    (case c9 => k_is)
    (case k9 => k_is)
    (case z_isinstance => k_is)
    (case z_int => k_is)
    (case z_bool => k_is)
    (case z_str => k_is)
    (case z_len => k_is)
    (case z_all => k_is)
    (case z_ValueError => k_is)
    (case z_range => k_is)
    (case g_MOST_SIGNS => k_is)
    (case h_NoWord => k_is)
    (case ic_NoWord => k_is)
    (case h_NoHandler => k_is)
    (case ic_NoHandler => k_is)
    (case tc_NoHandler => k_is)
    (case h_Twice => k_is)
    (case ic_Twice => k_is)
    (case tc_Twice => k_is)
    (case h_Stranger => k_is)
    (case ic_Stranger => k_is)
    (case tc_Stranger => k_is)
    (case h_NoCount => k_is)
    (case ic_NoCount => k_is)
    (case tc_NoCount => k_is)
    (case h_LoomError => k_is)
    (case ic_LoomError => k_is)
    (case tc_LoomError => k_is)
    (case xc_NoWord => k_exc)
    (case kc_NoWord => k_is)
    (case sc_NoWord => k_is)
    (case tc_NoWord => k_is)
    (case e1_NoWord => k_is)
    (case e2_NoWord => k_is)
    (case e4_NoWord => k_is)
    (case e5_NoWord => k_is)
    (case e6_NoWord => k_is)
    (case e7_NoWord => k_is)
    (case e8_NoWord => k_is)
    (case sub_NoWord_NoWord => first | rfl | k_is)
    (case sub_NoWord_NoHandler => first | rfl | k_is)
    (case sub_NoWord_Twice => first | rfl | k_is)
    (case sub_NoWord_Stranger => first | rfl | k_is)
    (case sub_NoWord_NoCount => first | rfl | k_is)
    (case sub_NoWord_ValueError => first | rfl | k_is)
    (case sub_NoWord_LoomError => first | rfl | k_is)
    (case sc_LoomError => k_is)
