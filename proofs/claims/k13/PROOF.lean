import PyProof.Rows.All
import Wide.All
import OpenK.AllK
import Wide.FinOn
import HandS.ForMost
import HandS.ForExc
import HandS.HotCalls
import HandS.ExcIs
import HandS.IsInst
import HandS.DictComp
import HandS.SortKw
import HandS.Wide
import HandS.TupAny
import HandS.TupLe
import HandS.Deep
import HandS.Steps
import HandS.Lambda
import KE.KSortKeySt
import KE.KLam
import HandS.EndTab
import HandS.Iter
import HandS.Records
import HandS.WordsDict
import HandS.SetFor
import PyProof.CollectWalk
import PyProof.ListNew
import HandS.RevTup
import PyProof.ListRange
import KE.SortData
import HandS.SortInts
import HandS.FStr
import HandS.Style
import PySem.Challenge.RW_eventloom_k13_tale
set_option Elab.async false
set_option linter.all false
set_option maxRecDepth 100000
set_option maxHeartbeats 4000000
/-! Pd: plain data. What a value stands for (Rp), what a part of a def makes of plain data (XD, XS), a def that makes data of data (spD). -/
namespace Pd
open PySem PySem.Spec PyProof.Rows L2

abbrev D := PyData
/-- a key as data -/
def kD : Key → D
  | .inl i => .int i
  | .inr x => .str x
abbrev St := L2.St

mutual
/-- the value v stands, in the heap H, for the data d -/
inductive Rp (K : PySem.W.Frag) (H : Hp) : V → D → Prop
  | non : Rp K H .non .none
  | bl (b : Bool) : Rp K H (.bl b) (.bool b)
  | int (i : Int) : Rp K H (.int i) (.int i)
  | str (x : Str) : Rp K H (.str x) (.str x)
  | lst {a : Addr} {xs : List V} {ds : List D} : SqL K H a xs → RpAll K H xs ds → Rp K H (.ref a) (.list ds)
  | tup {a : Addr} {xs : List V} {ds : List D} : SqT K H a xs → RpAll K H xs ds → Rp K H (.ref a) (.tuple ds)
  | dct {a : Addr} {kvs : List (Key × V)} {ds : List (D × D)} : H a = some (.dK kvs) → RpKv K H kvs ds → Rp K H (.ref a) (.dict ds)
inductive RpAll (K : PySem.W.Frag) (H : Hp) : List V → List D → Prop
  | nil : RpAll K H [] []
  | cons {v : V} {vs : List V} {d : D} {ds : List D} : Rp K H v d → RpAll K H vs ds → RpAll K H (v :: vs) (d :: ds)
inductive RpKv (K : PySem.W.Frag) (H : Hp) : List (Key × V) → List (D × D) → Prop
  | nil : RpKv K H [] []
  | cons {k : Key} {v : V} {kvs : List (Key × V)} {d : D} {ds : List (D × D)} : Rp K H v d → RpKv K H kvs ds → RpKv K H ((k, v) :: kvs) ((kD k, d) :: ds)
end

theorem SqT_same {K : PySem.W.Frag} {H H' : Hp} {a : Addr} {xs : List V} (e : Same H H') (h : SqT K H a xs) : SqT K H' a xs := by
  rcases h with (h | ⟨o, h⟩) | h
  · exact .inl (.inl (e _ _ h))
  · exact .inl (.inr ⟨o, e _ _ h⟩)
  · exact .inr h
mutual
theorem Rp.mono {K : PySem.W.Frag} {H H' : Hp} (e : Same H H') : ∀ {v : V} {d : D}, Rp K H v d → Rp K H' v d
  | _, _, .non => .non
  | _, _, .bl b => .bl b
  | _, _, .int i => .int i
  | _, _, .str x => .str x
  | _, _, .lst h r => .lst (e.seq h) (RpAll.mono e r)
  | _, _, .tup h r => .tup (SqT_same e h) (RpAll.mono e r)
  | _, _, .dct h r => .dct (e _ _ h) (RpKv.mono e r)
theorem RpAll.mono {K : PySem.W.Frag} {H H' : Hp} (e : Same H H') : ∀ {vs : List V} {ds : List D}, RpAll K H vs ds → RpAll K H' vs ds
  | _, _, .nil => .nil
  | _, _, .cons h r => .cons (Rp.mono e h) (RpAll.mono e r)
theorem RpKv.mono {K : PySem.W.Frag} {H H' : Hp} (e : Same H H') : ∀ {vs : List (Key × V)} {ds : List (D × D)}, RpKv K H vs ds → RpKv K H' vs ds
  | _, _, .nil => .nil
  | _, _, .cons h r => .cons (Rp.mono e h) (RpKv.mono e r)
end
mutual
theorem Rp.dp {K : PySem.W.Frag} {H : Hp} : ∀ {v : V} {d : D}, d.canLay0 = true → Rp K H v d → Dp K H v d
  | _, _, _, .non => .non
  | _, _, _, .bl b => .bl b
  | _, _, _, .int i => .int i
  | _, _, _, .str x => .str x
  | _, _, c, .lst h r => .lst h (RpAll.dp (by rw [PyData.canLay0] at c; exact c) r)
  | _, _, c, .tup h r => .tup h (RpAll.dp (by rw [PyData.canLay0] at c; exact c) r)
  | _, _, c, .dct h _ => by rw [PyData.canLay0] at c; cases c
theorem RpAll.dp {K : PySem.W.Frag} {H : Hp} : ∀ {vs : List V} {ds : List D}, PyData.canLayAll0 ds = true → RpAll K H vs ds → DpAll K H vs ds
  | _, _, _, .nil => .nil
  | _, _, c, .cons h r => .cons (Rp.dp (by rw [PyData.canLayAll0, Bool.and_eq_true] at c; exact c.1) h) (RpAll.dp (by rw [PyData.canLayAll0, Bool.and_eq_true] at c; exact c.2) r)
end
theorem shaped_lay {d : D} (h : SeqAt.shaped d = true) : d.canLay0 = true := by
  unfold SeqAt.shaped at h
  rw [Bool.and_eq_true] at h
  exact h.1
theorem Rp.dps {K : PySem.W.Frag} {H : Hp} {v : V} {d : D} (h : SeqAt.shaped d = true) (r : Rp K H v d) : Dp K H v d := r.dp (shaped_lay h)
theorem RpAll.length {K : PySem.W.Frag} {H : Hp} : ∀ {vs : List V} {ds : List D}, RpAll K H vs ds → vs.length = ds.length
  | _, _, .nil => rfl
  | _, _, .cons _ r => congrArg (· + 1) (RpAll.length r)
theorem RpAll.append {K : PySem.W.Frag} {H : Hp} : ∀ {vs ws : List V} {ds es : List D}, RpAll K H vs ds → RpAll K H ws es → RpAll K H (vs ++ ws) (ds ++ es)
  | _, _, _, _, .nil, s => s
  | _, _, _, _, .cons h r, s => .cons h (RpAll.append r s)
theorem RpAll.get {K : PySem.W.Frag} {H : Hp} : ∀ {vs : List V} {ds : List D} {i : Nat} {v : V}, RpAll K H vs ds → vs[i]? = some v → ∃ d, ds[i]? = some d ∧ Rp K H v d
  | _, _, _, _, .nil, e => by simp at e
  | _, _, 0, _, .cons h _, e => by simp at e; subst e; exact ⟨_, rfl, h⟩
  | _, _, i + 1, _, .cons _ r, e => by
    obtain ⟨d, h1, h2⟩ := RpAll.get (i := i) r (by simpa using e)
    exact ⟨d, by simpa using h1, h2⟩
theorem RpAll.got {K : PySem.W.Frag} {H : Hp} : ∀ {vs : List V} {ds : List D} {i : Nat} {d : D}, RpAll K H vs ds → ds[i]? = some d → ∃ v, vs[i]? = some v ∧ Rp K H v d
  | _, _, _, _, .nil, e => by simp at e
  | _, _, 0, _, .cons h _, e => by simp at e; subst e; exact ⟨_, rfl, h⟩
  | _, _, i + 1, _, .cons _ r, e => by
    obtain ⟨d, h1, h2⟩ := RpAll.got (i := i) r (by simpa using e)
    exact ⟨d, by simpa using h1, h2⟩
theorem RpAll.take {K : PySem.W.Frag} {H : Hp} : ∀ {vs : List V} {ds : List D} (n : Nat), RpAll K H vs ds → RpAll K H (vs.take n) (ds.take n)
  | _, _, 0, _ => .nil
  | _, _, _ + 1, .nil => .nil
  | _, _, n + 1, .cons h r => .cons h (RpAll.take n r)
theorem RpAll.drop {K : PySem.W.Frag} {H : Hp} : ∀ {vs : List V} {ds : List D} (n : Nat), RpAll K H vs ds → RpAll K H (vs.drop n) (ds.drop n)
  | _, _, 0, r => r
  | _, _, _ + 1, .nil => .nil
  | _, _, n + 1, .cons _ r => RpAll.drop n r

/-! ### the kept part F of the heap H: what stands there is never changed. T: the tables of code objects, which grow where a lambda is made -/
abbrev Tabs := LamX.Tabs
structure Keep (T : List (Addr × Str)) (H H' : Hp) : Prop where
  old : ∀ b o, H b = some o → (∀ ps, o ≠ .tbl ps) → H' b = some o
  tabs : Tabs T H → Tabs T H'
theorem Keep.of {T : List (Addr × Str)} {H H' : Hp} (s : Same H H') : Keep T H H' := ⟨fun b o e _ => s b o e, fun t => t.ext s⟩
theorem Keep.refl {T : List (Addr × Str)} (H : Hp) : Keep T H H := .of (Same.refl H)
theorem Keep.trans {T : List (Addr × Str)} {H H1 H2 : Hp} (a : Keep T H H1) (b : Keep T H1 H2) : Keep T H H2 :=
  ⟨fun c o e n => b.old c o (a.old c o e n) n, fun t => b.tabs (a.tabs t)⟩
theorem Keep.lst {T : List (Addr × Str)} {H H' : Hp} (k : Keep T H H') {a : Addr} {vs : List V} (e : H a = some (.lst vs)) : H' a = some (.lst vs) := k.old a _ e fun ps z => by cases z
/-- nothing of one's own stands there: nothing, or a table -/
def Fre (o : Option HO) : Prop := o = Option.none ∨ ∃ ps, o = some (.tbl ps)
theorem Fre.lst {vs : List V} {p : Prop} (h : Fre (some (.lst vs))) : p := by
  rcases h with h | ⟨ps, h⟩ <;> cases h
theorem Fre.ne {H : Hp} {a b : Addr} {o : HO} (h : Fre (H a)) (e : H b = some o) (n : ∀ ps, o ≠ .tbl ps) : b ≠ a := by
  rintro rfl
  rw [e] at h
  rcases h with h | ⟨ps, h⟩
  · cases h
  · exact n ps (Option.some.inj h)
theorem Keep.free {T : List (Addr × Str)} {H H' : Hp} (k : Keep T H H') {a : Addr} (e : Fre (H' a)) : Fre (H a) := by
  cases q : H a with
  | none => exact .inl rfl
  | some o =>
    by_cases z : ∃ ps, o = .tbl ps
    · obtain ⟨ps, rfl⟩ := z
      exact .inr ⟨ps, rfl⟩
    · exact absurd rfl (Fre.ne e (k.old a o q fun ps y => z ⟨ps, y⟩) fun ps y => z ⟨ps, y⟩)
/-- a kept part has no tables -/
structure Sub (T : List (Addr × Str)) (F H : Hp) : Prop where
  same : Same F H
  nt : ∀ b ps, F b ≠ some (.tbl ps)
  tabs : Tabs T H
theorem Sub.keep {T : List (Addr × Str)} {F H H' : Hp} (s : Sub T F H) (k : Keep T H H') : Sub T F H' := ⟨fun b o e => k.old b o (s.same b o e) fun ps z => s.nt b ps (by rw [← z]; exact e), s.nt, k.tabs s.tabs⟩
/-- nothing is a table -/
def noT (o : HO) : Prop := ∀ ps, o ≠ .tbl ps
structure Grow (T : List (Addr × Str)) (F H F' H' : Hp) : Prop where
  f : Same F F'
  h : Keep T H H'
  s : Sub T F' H'
  n : ∀ b o, F' b = some o → F b = Option.none → Fre (H b)
section
variable {T : List (Addr × Str)}
theorem Grow.refl {F H : Hp} (s : Sub T F H) : Grow T F H F H := ⟨Same.refl _, Keep.refl _, s, fun b o e n => by rw [n] at e; cases e⟩
theorem Grow.trans {F H F1 H1 F2 H2 : Hp} (a : Grow T F H F1 H1) (b : Grow T F1 H1 F2 H2) : Grow T F H F2 H2 :=
  ⟨a.f.trans b.f, a.h.trans b.h, b.s, fun c o e n => by
    cases q : F1 c with
    | none => exact a.h.free (b.n c o e q)
    | some u => exact a.n c u q n⟩
theorem upd_same_of {H : Hp} {p : Addr} {o : HO} (hp : H p = Option.none) : Same H (upd H p o) := fun b u e => by rw [upd_ne (ne_of_none e hp)]; exact e
/-- a new object that stays -/
theorem Grow.new {F H : Hp} {p : Addr} {o : HO} (s : Sub T F H) (hp : H p = Option.none) (no : noT o := by intro _ z; cases z) : Grow T F H (upd F p o) (upd H p o) where
  f := upd_same_of (s.same.free hp)
  h := .of (upd_same_of hp)
  s := ⟨fun b u e => by
    by_cases hb : b = p
    · subst hb; rw [upd_same] at e ⊢; exact e
    · rw [upd_ne hb] at e ⊢; exact s.same _ _ e, fun b ps e => by
    by_cases hb : b = p
    · subst hb; rw [upd_same] at e; exact no ps (Option.some.inj e)
    · rw [upd_ne hb] at e; exact s.nt b ps e, s.tabs.ext (upd_same_of hp)⟩
  n := fun b u e n => by
    by_cases hb : b = p
    · subst hb; exact .inl hp
    · rw [upd_ne hb, n] at e; cases e
/-- a new object of one's own hand -/
theorem Grow.mine {F H : Hp} {p : Addr} {o : HO} (s : Sub T F H) (hp : H p = Option.none) : Grow T F H F (upd H p o) :=
  ⟨Same.refl _, .of (upd_same_of hp), ⟨fun b u e => by rw [upd_ne (ne_of_none e (s.same.free hp))]; exact s.same _ _ e, s.nt, s.tabs.ext (upd_same_of hp)⟩, fun b u e n => by rw [n] at e; cases e⟩
/-- a list is changed: the tables stay -/
theorem Tabs_put {H : Hp} {a : Addr} {vs : List V} {o : HO} (ha : H a = some (.lst vs)) (t : Tabs T H) : Tabs T (upd H a o) := fun p hp => by
  obtain ⟨ps, a1, a2, a3⟩ := t p hp
  refine ⟨ps, ?_, a2, fun pos cv hcv => ?_⟩
  · rw [upd_ne (fun z => by rw [z, ha] at a1; cases a1)]
    exact a1
  · obtain ⟨c, e1, e2⟩ := a3 pos cv hcv
    refine ⟨c, e1, ?_⟩
    rw [upd_ne (fun z => by rw [z, ha] at e2; unfold LamX.CodeO at e2; cases e2)]
    exact e2
theorem Keep.put {H0 H : Hp} {a : Addr} {vs : List V} {o : HO} (k : Keep T H0 H) (hn : Fre (H0 a)) (ha : H a = some (.lst vs)) : Keep T H0 (upd H a o) :=
  ⟨fun b u e n => by rw [upd_ne (hn.ne e n)]; exact k.old b u e n, fun t => Tabs_put ha (k.tabs t)⟩
end

/-! ### what stands in a slot -/
/-- nothing that is known; data that stays; a list of this def's own hand, which it may change -/
inductive Ent where
  | no
  | va (d : D)
  | ow (ds : List D)
  | raw (a : Addr)
abbrev Fr := List Ent
structure State (T : List (Addr × Str)) (K : PySem.W.Frag) (F0 H0 : Hp) (σ : St) (F H : Hp) (ρ : Fr) : Prop where
  g : Grow T F0 H0 F H
  ln : ρ.length = σ.length
  va : ∀ (i : Nat) (d : D), ρ[i]? = some (.va d) → ∃ v, σ[i]? = some (some v) ∧ Rp K F v d
  ow : ∀ (i : Nat) (ds : List D), ρ[i]? = some (.ow ds) → ∃ a vs, σ[i]? = some (some (.ref a)) ∧ H a = some (.lst vs) ∧ F a = Option.none ∧ Fre (H0 a) ∧ RpAll K F vs ds
  dj : ∀ (i j : Nat) (ds es : List D) (a b : Addr), ρ[i]? = some (.ow ds) → ρ[j]? = some (.ow es) → σ[i]? = some (some (.ref a)) → σ[j]? = some (some (.ref b)) → i ≠ j → a ≠ b
  raw : ∀ (i : Nat) (a : Addr), ρ[i]? = some (.raw a) → σ[i]? = some (some (.ref a))
section
variable {T : List (Addr × Str)} {K : PySem.W.Frag} {F0 H0 F H F' H' : Hp} {σ : St} {ρ : Fr}
theorem State.s (S : State T K F0 H0 σ F H ρ) : Sub T F H := S.g.s
theorem State.grow (S : State T K F0 H0 σ F H ρ) (g : Grow T F H F' H') : State T K F0 H0 σ F' H' ρ where
  g := S.g.trans g
  ln := S.ln
  va := fun i d e => let ⟨v, e1, r⟩ := S.va i d e; ⟨v, e1, r.mono g.f⟩
  ow := fun i ds e => by
    obtain ⟨a, vs, e1, e2, e3, e4, r⟩ := S.ow i ds e
    refine ⟨a, vs, e1, g.h.lst e2, ?_, e4, r.mono g.f⟩
    cases q : F' a with
    | none => rfl
    | some u =>
      have z := g.n a u q e3
      rw [e2] at z; exact z.lst
  dj := S.dj
  raw := S.raw
end

/-! ### expressions -/
abbrev M (α : Type) := Fr → Option α
def EL (T : List (Addr × Str)) (K : PySem.W.Frag) (te : TE) (m : M D) : Prop := ∀ (F0 H0 : Hp) (σ : St) (F H : Hp) (ρ : Fr) (d : D), State T K F0 H0 σ F H ρ → m ρ = some d →
  ∀ Q : VK, (∀ v F' H', Grow T F H F' H' → Rp K F' v d → Q v H') → te σ H Q
def TL (T : List (Addr × Str)) (K : PySem.W.Frag) (tt : TT) (m : M Bool) : Prop := ∀ (F0 H0 : Hp) (σ : St) (F H : Hp) (ρ : Fr) (b : Bool), State T K F0 H0 σ F H ρ → m ρ = some b →
  ∀ Q : Bool → Hp → Prop, (∀ F' H', Grow T F H F' H' → Q b H') → tt σ H Q
def AL (T : List (Addr × Str)) (K : PySem.W.Frag) (ta : TA) (m : M (List D)) : Prop := ∀ (F0 H0 : Hp) (σ : St) (F H : Hp) (ρ : Fr) (ds : List D), State T K F0 H0 σ F H ρ → m ρ = some ds →
  ∀ Q : List V → Hp → Prop, (∀ vs F' H', Grow T F H F' H' → RpAll K F' vs ds → Q vs H') → ta σ H Q
def XD {ι : Type} (X : ι → Cx) (T : List (Addr × Str)) (K : PySem.W.Frag) (e : Expr) (m : M D) : Prop := ∃ t, (∀ i, PE (X i) e t) ∧ EL T K t m
def XT {ι : Type} (X : ι → Cx) (T : List (Addr × Str)) (K : PySem.W.Frag) (e : Expr) (m : M Bool) : Prop := ∃ t, (∀ i, PT (X i) e t) ∧ TL T K t m
def XW {ι : Type} (X : ι → Cx) (T : List (Addr × Str)) (K : PySem.W.Frag) (e : Expr) (m : M Bool) : Prop := ∃ t, (∀ i, PW (X i) e t) ∧ TL T K t m
def XA {ι : Type} (X : ι → Cx) (T : List (Addr × Str)) (K : PySem.W.Frag) (es : List Expr) (m : M (List D)) : Prop := ∃ t, (∀ i, PA (X i) es t) ∧ AL T K t m

def mVar (i : Nat) : M D := fun ρ => match ρ[i]? with
  | some (.va d) => some d
  | _ => none
def mC (d : D) : M D := fun _ => some d
def m1 (f : D → Option D) (a : M D) : M D := fun ρ => (a ρ).bind f
def m2 (f : D → D → Option D) (a b : M D) : M D := fun ρ => (a ρ).bind fun x => (b ρ).bind fun y => f x y
def mNil : M (List D) := fun _ => some []
def mCons (a : M D) (r : M (List D)) : M (List D) := fun ρ => (a ρ).bind fun x => (r ρ).bind fun xs => some (x :: xs)
def mA (f : List D → Option D) (a : M (List D)) : M D := fun ρ => (a ρ).bind f

section
variable {ι : Type} {T : List (Addr × Str)} {K : PySem.W.Frag} {X : ι → Cx}
theorem el_var (i : Nat) : EL T K (tVar i) (mVar i) := by
  intro F0 H0 σ F H ρ d S h Q q
  unfold mVar at h
  split at h
  · rename_i d' e
    cases h
    obtain ⟨v, e1, r⟩ := S.va i d e
    exact ⟨v, e1, q v F H (Grow.refl S.s) r⟩
  · cases h
theorem el_c {v : V} {d : D} (r : ∀ F, Rp K F v d) : EL T K (tC v) (mC d) := by
  intro F0 H0 σ F H ρ d' S h Q q
  cases h
  exact q v F H (Grow.refl S.s) (r F)
theorem xd_v (i : Nat) {x : Str} {pos : Pos} (hN : ∀ i0, (X i0).N[i]? = some x := by intro _; rfl) (hv : ∀ i0, Vis (X i0).env.scope x := by intro _; first | exact Or.inl rfl | exact Or.inr (Or.inl rfl) | exact Or.inr (Or.inr rfl)) (hd : (x == ("__debug__" : Str)) = false := by decide)
    (hcd : (x == ("__classdict__" : Str)) = false := by decide) : XD X T K (.Name x pos) (mVar i) := ⟨_, fun i0 => pe_var (hN i0) (hv i0) hd hcd, el_var i⟩
theorem xd_int {i j pos} : XD X T K (.Constant (.int i) j pos) (mC (.int i)) := ⟨_, fun i0 => pe_int, el_c fun _ => .int i⟩
theorem xd_bl {b j pos} : XD X T K (.Constant (.bool b) j pos) (mC (.bool b)) := ⟨_, fun i0 => pe_bl, el_c fun _ => .bl b⟩
theorem xd_non {j pos} : XD X T K (.Constant .none j pos) (mC .none) := ⟨_, fun i0 => pe_non, el_c fun _ => .non⟩
theorem xd_str {x j pos} : XD X T K (.Constant (.str x) j pos) (mC (.str x)) := ⟨_, fun i0 => pe_str, el_c fun _ => .str x⟩
/-- a module's constant -/
theorem xd_glob {x : Str} {v : V} {u : Value} {d : D} {pos : Pos} (hm : ∀ i0, (X i0).mg x = some u) (r : RelV v u) (rp : ∀ F, Rp K F v d) (hg : ∀ i0, Gl (X i0) x := by intro _; rfl) (hd : (x == ("__debug__" : Str)) = false := by decide) : XD X T K (.Name x pos) (mC d) :=
  ⟨_, fun i0 => pe_glob (hg i0) (hm i0) r hd, el_c rp⟩
theorem xa_nil : XA X T K [] mNil := ⟨_, fun i0 => pa_nil, by
  intro F0 H0 σ F H ρ ds S h Q q
  cases h
  exact q [] F H (Grow.refl S.s) .nil⟩
theorem al_cons {te : TE} {ta : TA} {a : M D} {r : M (List D)} (ha : EL T K te a) (hr : AL T K ta r) : AL T K (tCons te ta) (mCons a r) := by
  intro F0 H0 σ F H ρ ds S h Q q
  unfold mCons at h
  obtain ⟨x, e1, h⟩ := Option.bind_eq_some_iff.mp h
  obtain ⟨xs, e2, h⟩ := Option.bind_eq_some_iff.mp h
  cases h
  refine ha F0 H0 σ F H ρ x S e1 _ fun v F1 H1 g1 r1 => ?_
  refine hr F0 H0 σ F1 H1 ρ xs (S.grow g1) e2 _ fun vs F2 H2 g2 r2 => ?_
  exact q (v :: vs) F2 H2 (g1.trans g2) (.cons (r1.mono g2.f) r2)
theorem xa_cons {e : Expr} {es : List Expr} {a : M D} {r : M (List D)} (ha : XD X T K e a) (hr : XA X T K es r) (hs : ∀ i0, starEach (e :: es) (X i0).env = (false, eval e (X i0).env) :: starEach es (X i0).env := by intro _; rfl) : XA X T K (e :: es) (mCons a r) := by
  obtain ⟨t, p, l⟩ := ha
  obtain ⟨u, p2, l2⟩ := hr
  exact ⟨_, fun i0 => pa_cons (p i0) (p2 i0) (hs i0), al_cons l l2⟩

/-- an operator by what it makes of data -/
def OpL (T : List (Addr × Str)) (K : PySem.W.Frag) (r : R2) (f : D → D → Option D) : Prop := ∀ (F H : Hp) (x y : V) (dx dy d : D), Sub T F H → Rp K F x dx → Rp K F y dy → f dx dy = some d →
  ∀ Q : VK, (∀ v F' H', Grow T F H F' H' → Rp K F' v d → Q v H') → r x y H Q
theorem el_op {r : R2} {f : D → D → Option D} {ta tb : TE} {a b : M D} (ho : OpL T K r f) (ha : EL T K ta a) (hb : EL T K tb b) : EL T K (tOp r ta tb) (m2 f a b) := by
  intro F0 H0 σ F H ρ d S h Q q
  unfold m2 at h
  obtain ⟨x, e1, h⟩ := Option.bind_eq_some_iff.mp h
  obtain ⟨y, e2, h⟩ := Option.bind_eq_some_iff.mp h
  refine ha F0 H0 σ F H ρ x S e1 _ fun v F1 H1 g1 r1 => ?_
  refine hb F0 H0 σ F1 H1 ρ y (S.grow g1) e2 _ fun u F2 H2 g2 r2 => ?_
  exact ho F2 H2 v u x y d g2.s (r1.mono g2.f) r2 h Q fun z F3 H3 g3 r3 => q z F3 H3 ((g1.trans g2).trans g3) r3
theorem xd_op {r : R2} {f : D → D → Option D} {op : Operator} {a b : Expr} {ma mb : M D} {pos : Pos} (hr : ∀ i0, OpR (X i0) (binaryOp op) r) (ho : OpL T K r f) (ha : XD X T K a ma) (hb : XD X T K b mb) : XD X T K (.BinOp a op b pos) (m2 f ma mb) := by
  obtain ⟨t, p, l⟩ := ha
  obtain ⟨u, p2, l2⟩ := hb
  exact ⟨_, fun i0 => pe_op (hr i0) (p i0) (p2 i0), el_op ho l l2⟩
theorem xd_cmp {r : R2} {f : D → D → Option D} {op : CmpOp} {a b : Expr} {ma mb : M D} {pos : Pos} (hr : ∀ i0, OpR (X i0) (compareOp op) r) (ho : OpL T K r f) (ha : XD X T K a ma) (hb : XD X T K b mb) (hm : behindInMarks op b = false) : XD X T K (.Compare a [op] [b] pos) (m2 f ma mb) := by
  obtain ⟨t, p, l⟩ := ha
  obtain ⟨u, p2, l2⟩ := hb
  exact ⟨_, fun i0 => pe_cmpR (hr i0) (p i0) (p2 i0) hm, el_op ho l l2⟩

/-! ### tests -/
def asB : D → Option Bool
  | .bool b => some b
  | _ => none
def mB (a : M D) : M Bool := fun ρ => (a ρ).bind asB
theorem tl_test {te : TE} {a : M D} (ha : EL T K te a) : TL T K (tTest te) (mB a) := by
  intro F0 H0 σ F H ρ b S h Q q
  unfold mB at h
  obtain ⟨x, e1, h⟩ := Option.bind_eq_some_iff.mp h
  refine ha F0 H0 σ F H ρ x S e1 _ fun v F1 H1 g1 r1 => ?_
  cases x <;> simp only [asB] at h <;> try (cases h; done)
  cases h
  cases r1
  exact ⟨b, rfl, q F1 H1 g1⟩
theorem xt_cmp {r : R2} {f : D → D → Option D} {op : CmpOp} {a b : Expr} {ma mb : M D} {pos : Pos} (hr : ∀ i0, OpR (X i0) (compareOp op) r) (ho : OpL T K r f) (ha : XD X T K a ma) (hb : XD X T K b mb) (hm : behindInMarks op b = false) : XT X T K (.Compare a [op] [b] pos) (mB (m2 f ma mb)) := by
  obtain ⟨t, p, l⟩ := ha
  obtain ⟨u, p2, l2⟩ := hb
  exact ⟨_, fun i0 => pt_cmpR (hr i0) (p i0) (p2 i0) hm, tl_test (el_op ho l l2)⟩
/-- truth of data -/
def dTru : D → Option Bool
  | .none => some false
  | .bool b => some b
  | .int i => some (i != 0)
  | .str x => if x.length ≤ sizeLine then some (x.length != 0) else none
  | .list xs => some (!xs.isEmpty)
  | .tuple xs => some (!xs.isEmpty)
  | .dict xs => some (!xs.isEmpty)
def mTru (a : M D) : M Bool := fun ρ => (a ρ).bind dTru
theorem isEmpty_of {vs : List V} {ds : List D} {H : Hp} (r : RpAll K H vs ds) : vs.isEmpty = ds.isEmpty := by
  cases r <;> rfl
theorem truV_of {H : Hp} {v : V} {d : D} {b : Bool} (r : Rp K H v d) (h : dTru d = some b) : TruV K v H b := by
  cases r with
  | non => cases h; rfl
  | bl b' => cases h; rfl
  | int i => cases h; rfl
  | str x =>
    simp only [dTru] at h
    split at h
    · rename_i hz
      cases h
      refine ⟨hz, ?_⟩
      show (x.length != 0) = (((x.length : Nat) : Int) != 0)
      rw [Bool.eq_iff_iff]
      simp only [bne_iff_ne, ne_eq]
      omega
    · cases h
  | lst hs r => cases h; exact .inl ⟨_, hs, by rw [isEmpty_of r]⟩
  | tup hs r => cases h; exact .inr (.inl ⟨_, hs, by rw [isEmpty_of r]⟩)
  | dct e r => cases h; exact .inr (.inr ⟨_, e, by cases r <;> rfl⟩)
theorem xt_tru {e : Expr} {a : M D} (ha : XD X T K e a) (he : ∀ i0, ∀ whole : Sem Value, PySem.isTrue e (X i0).env whole = (do let v ← whole; standAt e.pos; holding [v] (truthy v)) := by intro _; intro _; rfl) (k : ∀ i0, (X i0).K = K := by intro _; rfl) : XT X T K e (mTru a) := by
  obtain ⟨t, p, l⟩ := ha
  refine ⟨fun σ H Q => t σ H fun x H' => ∃ k, TruV K x H' k ∧ Q k H', fun i0 => by have e := k i0; subst e; exact pt_truth (p i0) (he i0), ?_⟩
  intro F0 H0 σ F H ρ b S h Q q
  unfold mTru at h
  obtain ⟨x, e1, h⟩ := Option.bind_eq_some_iff.mp h
  refine l F0 H0 σ F H ρ x S e1 _ fun v F1 H1 g1 r1 => ?_
  exact ⟨b, truV_of (r1.mono g1.s.same) h, q F1 H1 g1⟩
def mAnd (a b : M Bool) : M Bool := fun ρ => (a ρ).bind fun x => if x = true then b ρ else some false
def mOr (a b : M Bool) : M Bool := fun ρ => (a ρ).bind fun x => if x = true then some true else b ρ
def mNot (a : M Bool) : M Bool := fun ρ => (a ρ).bind fun x => some (!x)
theorem xt_not {e : Expr} {a : M Bool} {pos : Pos} (ha : XT X T K e a) : XT X T K (.UnaryOp .Not e pos) (mNot a) := by
  obtain ⟨t, p, l⟩ := ha
  refine ⟨_, fun i0 => pt_not (p i0), ?_⟩
  intro F0 H0 σ F H ρ b S h Q q
  unfold mNot at h
  obtain ⟨x, e1, h⟩ := Option.bind_eq_some_iff.mp h
  cases h
  exact l F0 H0 σ F H ρ x S e1 _ fun F1 H1 g1 => q F1 H1 g1
theorem xw_and1 {e : Expr} {a : M Bool} {pos : Pos} (ha : XT X T K e a) : XW X T K (.BoolOp .And [e] pos) a := by
  obtain ⟨t, p, l⟩ := ha
  exact ⟨_, fun i0 => pw_and1 (p i0), l⟩
theorem xw_or1 {e : Expr} {a : M Bool} {pos : Pos} (ha : XT X T K e a) : XW X T K (.BoolOp .Or [e] pos) a := by
  obtain ⟨t, p, l⟩ := ha
  exact ⟨_, fun i0 => pw_or1 (p i0), l⟩
theorem xw_and {e f : Expr} {es : List Expr} {a b : M Bool} {pos : Pos} (ha : XT X T K e a) (hb : XW X T K (.BoolOp .And (f :: es) pos) b) : XW X T K (.BoolOp .And (e :: f :: es) pos) (mAnd a b) := by
  obtain ⟨t, p, l⟩ := ha
  obtain ⟨u, p2, l2⟩ := hb
  refine ⟨_, fun i0 => pw_and (p i0) (p2 i0), ?_⟩
  intro F0 H0 σ F H ρ b S h Q q
  unfold mAnd at h
  obtain ⟨x, e1, h⟩ := Option.bind_eq_some_iff.mp h
  refine l F0 H0 σ F H ρ x S e1 _ fun F1 H1 g1 => ?_
  cases x with
  | true =>
    rw [if_pos rfl] at h ⊢
    exact l2 F0 H0 σ F1 H1 ρ b (S.grow g1) h _ fun F2 H2 g2 => q F2 H2 (g1.trans g2)
  | false =>
    rw [if_neg Bool.false_ne_true] at h ⊢
    cases h
    exact q F1 H1 g1
theorem xw_or {e f : Expr} {es : List Expr} {a b : M Bool} {pos : Pos} (ha : XT X T K e a) (hb : XW X T K (.BoolOp .Or (f :: es) pos) b) : XW X T K (.BoolOp .Or (e :: f :: es) pos) (mOr a b) := by
  obtain ⟨t, p, l⟩ := ha
  obtain ⟨u, p2, l2⟩ := hb
  refine ⟨_, fun i0 => pw_or (p i0) (p2 i0), ?_⟩
  intro F0 H0 σ F H ρ b S h Q q
  unfold mOr at h
  obtain ⟨x, e1, h⟩ := Option.bind_eq_some_iff.mp h
  refine l F0 H0 σ F H ρ x S e1 _ fun F1 H1 g1 => ?_
  cases x with
  | true =>
    rw [if_pos rfl] at h ⊢
    cases h
    exact q F1 H1 g1
  | false =>
    rw [if_neg Bool.false_ne_true] at h ⊢
    exact l2 F0 H0 σ F1 H1 ρ b (S.grow g1) h _ fun F2 H2 g2 => q F2 H2 (g1.trans g2)
theorem XW.pt {e : Expr} {a : M Bool} (h : XW X T K e a) : XT X T K e a := by
  obtain ⟨t, p, l⟩ := h
  exact ⟨_, fun i0 => (p i0).pt, l⟩
/-- a and b, a or b, not a as values: all but the last True or False -/
def mAndV (a b : M D) : M D := fun ρ => (a ρ).bind fun x => match x with
  | .bool true => b ρ
  | .bool false => some (.bool false)
  | _ => none
def mOrV (a b : M D) : M D := fun ρ => (a ρ).bind fun x => match x with
  | .bool true => some (.bool true)
  | .bool false => b ρ
  | _ => none
def mNotV (a : M D) : M D := fun ρ => (a ρ).bind fun x => match x with
  | .bool c => some (.bool (!c))
  | _ => none
theorem xd_one {op} {e : Expr} {a : M D} {pos : Pos} (ha : XD X T K e a) : XD X T K (.BoolOp op [e] pos) a := by
  obtain ⟨t, p, l⟩ := ha
  exact ⟨_, fun i0 => pe_one (p i0), l⟩
theorem xd_and {e f : Expr} {es : List Expr} {a b : M D} {pos : Pos} (ha : XD X T K e a) (hb : XD X T K (.BoolOp .And (f :: es) pos) b) : XD X T K (.BoolOp .And (e :: f :: es) pos) (mAndV a b) := by
  obtain ⟨t, p, l⟩ := ha
  obtain ⟨u, p2, l2⟩ := hb
  refine ⟨_, fun i0 => pe_and (p i0) (p2 i0), ?_⟩
  intro F0 H0 σ F H ρ d S h Q q
  unfold mAndV at h
  obtain ⟨x, e1, h⟩ := Option.bind_eq_some_iff.mp h
  refine l F0 H0 σ F H ρ x S e1 _ fun v F1 H1 g1 r1 => ?_
  split at h
  · cases r1
    refine ⟨true, rfl, ?_⟩
    rw [if_pos rfl]
    exact l2 F0 H0 σ F1 H1 ρ d (S.grow g1) h _ fun v2 F2 H2 g2 r2 => q v2 F2 H2 (g1.trans g2) r2
  · cases r1
    cases h
    refine ⟨false, rfl, ?_⟩
    rw [if_neg Bool.false_ne_true]
    exact q _ F1 H1 g1 (.bl false)
  · cases h
theorem xd_or {e f : Expr} {es : List Expr} {a b : M D} {pos : Pos} (ha : XD X T K e a) (hb : XD X T K (.BoolOp .Or (f :: es) pos) b) : XD X T K (.BoolOp .Or (e :: f :: es) pos) (mOrV a b) := by
  obtain ⟨t, p, l⟩ := ha
  obtain ⟨u, p2, l2⟩ := hb
  refine ⟨_, fun i0 => pe_or (p i0) (p2 i0), ?_⟩
  intro F0 H0 σ F H ρ d S h Q q
  unfold mOrV at h
  obtain ⟨x, e1, h⟩ := Option.bind_eq_some_iff.mp h
  refine l F0 H0 σ F H ρ x S e1 _ fun v F1 H1 g1 r1 => ?_
  split at h
  · cases r1
    cases h
    refine ⟨true, rfl, ?_⟩
    rw [if_pos rfl]
    exact q _ F1 H1 g1 (.bl true)
  · cases r1
    refine ⟨false, rfl, ?_⟩
    rw [if_neg Bool.false_ne_true]
    exact l2 F0 H0 σ F1 H1 ρ d (S.grow g1) h _ fun v2 F2 H2 g2 r2 => q v2 F2 H2 (g1.trans g2) r2
  · cases h
theorem xd_not {e : Expr} {a : M D} {pos : Pos} (ha : XD X T K e a) : XD X T K (.UnaryOp .Not e pos) (mNotV a) := by
  obtain ⟨t, p, l⟩ := ha
  refine ⟨_, fun i0 => pe_not (p i0), ?_⟩
  intro F0 H0 σ F H ρ d S h Q q
  unfold mNotV at h
  obtain ⟨x, e1, h⟩ := Option.bind_eq_some_iff.mp h
  refine l F0 H0 σ F H ρ x S e1 _ fun v F1 H1 g1 r1 => ?_
  split at h
  · cases r1
    cases h
    exact ⟨_, rfl, q _ F1 H1 g1 (.bl _)⟩
  · cases h
def mIf (c : M Bool) (a b : M D) : M D := fun ρ => (c ρ).bind fun x => if x = true then a ρ else b ρ
theorem xd_if {c a b : Expr} {mc : M Bool} {ma mb : M D} {pos : Pos} (hc : XT X T K c mc) (ha : XD X T K a ma) (hb : XD X T K b mb) : XD X T K (.IfExp c a b pos) (mIf mc ma mb) := by
  obtain ⟨t, p, l⟩ := ha
  obtain ⟨u, p2, l2⟩ := hb
  obtain ⟨w, p3, l3⟩ := hc
  refine ⟨_, fun i0 => pe_ifExp (p3 i0) (p i0) (p2 i0), ?_⟩
  intro F0 H0 σ F H ρ d S h Q q
  unfold mIf at h
  obtain ⟨x, e1, h⟩ := Option.bind_eq_some_iff.mp h
  refine l3 F0 H0 σ F H ρ x S e1 _ fun F1 H1 g1 => ?_
  cases x with
  | true =>
    rw [if_pos rfl] at h ⊢
    exact l F0 H0 σ F1 H1 ρ d (S.grow g1) h _ fun v F2 H2 g2 r2 => q v F2 H2 (g1.trans g2) r2
  | false =>
    rw [if_neg Bool.false_ne_true] at h ⊢
    exact l2 F0 H0 σ F1 H1 ρ d (S.grow g1) h _ fun v F2 H2 g2 r2 => q v F2 H2 (g1.trans g2) r2
end
end Pd

namespace Pd
open PySem PySem.Spec PyProof.Rows L2
section
variable {ι : Type} {T : List (Addr × Str)} {K : PySem.W.Frag} {X : ι → Cx}
/-! ### operators on data -/
def rCatS (K : PySem.W.Frag) : R2 := fun x y H Q => ∃ l b xs zs, x = .ref l ∧ y = .ref b ∧ SqL K H l xs ∧ SqL K H b zs ∧ xs.length + zs.length ≤ sizeLine ∧ ∀ p, H p = none → Q (.ref p) (upd H p (.lst (xs ++ zs)))
theorem op_catS {Y : Cx} : OpR Y (binaryOp .Add) (rCatS Y.K) := by
  intro pins s σ H x y v u Q I rx ry h
  obtain ⟨l, b, xs, zs, rfl, rfl, hH, hB, hz, q⟩ := h
  cases rx
  cases ry
  obtain ⟨its, r, pl, z⟩ := I.list hH
  obtain ⟨its2, r2, pl2, z2⟩ := I.list hB
  have hl := r.length
  have hl2 := r2.length
  obtain ⟨⟨cls, dd, data, sl⟩, n, ho, hc, hdd, hd⟩ := id pl
  obtain ⟨⟨cls2, dd2, data2, sl2⟩, n2, ho2, hc2, hdd2, hd2⟩ := id pl2
  simp only at hc hd hc2 hd2 hdd hdd2
  subst hc hd hc2 hd2 hdd hdd2
  refine concat_meets ⟨_, ho, rfl⟩ ⟨_, ho2, rfl⟩ noFill_list_add seq_list_add PySem.F.slot_list_add PySem.F.entry_list_add (PySem.F.args_list_add_2 _ _) (list_addW l b its.toArray its2.toArray n n2 none none sl sl2 (by simp only [List.size_toArray]; omega)) ⟨ho, ho2, ?_⟩
  have ea : its.toArray ++ its2.toArray = (its ++ its2).toArray := by simp
  rw [ea]
  exact ⟨.ref _, _, I.lnew (t' := s.toks) (r.append r2) (by rw [List.length_append]; omega), rfl, q _ I.fresh⟩
def rPlus (K : PySem.W.Frag) : R2 := fun x y H Q => rI0 (fun i j => V.int (i + j)) x y H Q ∨ (∃ i j, x = V.str i ∧ y = V.str j ∧ i.length + j.length ≤ sizeLine ∧ Q (.str (i ++ j)) H) ∨ rCatS K x y H Q ∨ rCatA K x y H Q
theorem op_plus {Y : Cx} : OpR Y (binaryOp .Add) (rPlus Y.K) := OpR.or op_add (OpR.or op_add_str (OpR.or op_catS op_catA))
def dAdd : D → D → Option D
  | .int a, .int b => some (.int (a + b))
  | .str a, .str b => if a.length + b.length ≤ sizeLine then some (.str (a ++ b)) else none
  | .list a, .list b => if a.length + b.length ≤ sizeLine then some (.list (a ++ b)) else none
  | .tuple a, .tuple b => if a.length + b.length ≤ sizeLine then some (.tuple (a ++ b)) else none
  | _, _ => none
theorem ol_plus : OpL T K (rPlus K) dAdd := by
  intro F H x y dx dy d s rx ry h Q q
  cases rx <;> cases ry <;> simp only [dAdd] at h <;> try (cases h; done)
  · cases h
    exact .inl ⟨_, _, rfl, rfl, q _ F H (Grow.refl s) (.int _)⟩
  · split at h
    · rename_i hz
      cases h
      exact .inr (.inl ⟨_, _, rfl, rfl, hz, q _ F H (Grow.refl s) (.str _)⟩)
    · cases h
  · rename_i a xs ds hs r b ys es hs2 r2
    split at h
    · rename_i hz
      cases h
      refine .inr (.inr (.inl ⟨a, b, xs, ys, rfl, rfl, s.same.seq hs, s.same.seq hs2, by rw [r.length, r2.length]; exact hz, fun p hp => ?_⟩))
      have g := Grow.new (T := T) (o := .lst (xs ++ ys)) s hp
      exact q _ _ _ g (.lst (SqL.of upd_same) ((r.append r2).mono g.f))
    · cases h
  · rename_i a xs ds hs r b ys es hs2 r2
    split at h
    · rename_i hz
      cases h
      refine .inr (.inr (.inr ⟨a, b, xs, ys, rfl, rfl, SqT_same s.same hs, SqT_same s.same hs2, by rw [r.length, r2.length]; exact hz, fun e => ?_, fun e1 e2 => ?_, fun e1 e2 p hp => ?_⟩))
      · subst e
        cases r
        exact q _ F H (Grow.refl s) (.tup hs2 r2)
      · subst e2
        cases r2
        rw [List.append_nil] at q
        exact q _ F H (Grow.refl s) (.tup hs r)
      · have g := Grow.new (T := T) (o := .tup (xs ++ ys)) s hp
        exact q _ _ _ g (.tup (SqT.of upd_same) ((r.append r2).mono g.f))
    · cases h
theorem xd_add {a b : Expr} {ma mb : M D} {pos : Pos} (ha : XD X T K a ma) (hb : XD X T K b mb) (k : ∀ i0, (X i0).K = K := by intro _; rfl) : XD X T K (.BinOp a .Add b pos) (m2 dAdd ma mb) := xd_op (fun i0 => by have e := k i0; subst e; exact op_plus) ol_plus ha hb

def dSub : D → D → Option D
  | .int a, .int b => some (.int (a - b))
  | _, _ => none
theorem xd_sub {a b : Expr} {ma mb : M D} {pos : Pos} (ha : XD X T K a ma) (hb : XD X T K b mb) : XD X T K (.BinOp a .Sub b pos) (m2 dSub ma mb) := by
  refine xd_op (fun _ => op_sub) ?_ ha hb
  intro F H x y dx dy d s rx ry h Q q
  cases rx <;> cases ry <;> simp only [dSub] at h <;> try (cases h; done)
  cases h
  exact ⟨_, _, rfl, rfl, q _ F H (Grow.refl s) (.int _)⟩
def isSmall (i : Int) : Bool := decide (-(2 ^ 64) < i) && decide (i < 2 ^ 64)
theorem isSmall_iff {i : Int} : isSmall i = true ↔ -(2 ^ 64) < i ∧ i < 2 ^ 64 := by
  unfold isSmall
  rw [Bool.and_eq_true, decide_eq_true_iff, decide_eq_true_iff]
def dMul : D → D → Option D
  | .int a, .int b => if isSmall a || isSmall b then some (.int (a * b)) else none
  | _, _ => none
theorem xd_mul {a b : Expr} {ma mb : M D} {pos : Pos} (ha : XD X T K a ma) (hb : XD X T K b mb) : XD X T K (.BinOp a .Mult b pos) (m2 dMul ma mb) := by
  refine xd_op (fun _ => op_mul) ?_ ha hb
  intro F H x y dx dy d s rx ry h Q q
  cases rx <;> cases ry <;> simp only [dMul] at h <;> try (cases h; done)
  split at h
  · rename_i hz
    cases h
    rw [Bool.or_eq_true, isSmall_iff, isSmall_iff] at hz
    exact ⟨_, _, rfl, rfl, hz, q _ F H (Grow.refl s) (.int _)⟩
  · cases h
def dFdiv : D → D → Option D
  | .int a, .int b => if 0 < b ∧ b < 1073741824 then some (.int (a / b)) else none
  | _, _ => none
theorem xd_fdiv {a b : Expr} {ma mb : M D} {pos : Pos} (ha : XD X T K a ma) (hb : XD X T K b mb) : XD X T K (.BinOp a .FloorDiv b pos) (m2 dFdiv ma mb) := by
  refine xd_op (fun _ => op_fdiv) ?_ ha hb
  intro F H x y dx dy d s rx ry h Q q
  cases rx <;> cases ry <;> simp only [dFdiv] at h <;> try (cases h; done)
  split at h
  · rename_i hz
    cases h
    exact ⟨_, _, rfl, rfl, hz, q _ F H (Grow.refl s) (.int _)⟩
  · cases h
def dMod : D → D → Option D
  | .int a, .int b => if 0 < b then some (.int (a % b)) else none
  | _, _ => none
theorem xd_mod {a b : Expr} {ma mb : M D} {pos : Pos} (ha : XD X T K a ma) (hb : XD X T K b mb) : XD X T K (.BinOp a .Mod b pos) (m2 dMod ma mb) := by
  refine xd_op (fun _ => op_mod) ?_ ha hb
  intro F H x y dx dy d s rx ry h Q q
  cases rx <;> cases ry <;> simp only [dMod] at h <;> try (cases h; done)
  split at h
  · rename_i hz
    cases h
    exact ⟨_, _, rfl, rfl, hz, q _ F H (Grow.refl s) (.int _)⟩
  · cases h
def dPow : D → D → Option D
  | .int a, .int b => if 0 ≤ b ∧ b ≤ 1000000 ∧ a.natAbs < 2 ^ 64 then some (.int (a ^ b.toNat)) else none
  | _, _ => none
theorem xd_pow {a b : Expr} {ma mb : M D} {pos : Pos} (ha : XD X T K a ma) (hb : XD X T K b mb) : XD X T K (.BinOp a .Pow b pos) (m2 dPow ma mb) := by
  refine xd_op (fun _ => op_pow) ?_ ha hb
  intro F H x y dx dy d s rx ry h Q q
  cases rx <;> cases ry <;> simp only [dPow] at h <;> try (cases h; done)
  split at h
  · rename_i hz
    cases h
    exact ⟨_, _, rfl, rfl, hz, q _ F H (Grow.refl s) (.int _)⟩
  · cases h
def dNeg : D → Option D
  | .int a => some (.int (-a))
  | _ => none
theorem xd_neg {a : Expr} {ma : M D} {pos : Pos} (ha : XD X T K a ma) : XD X T K (.UnaryOp .USub a pos) (m1 dNeg ma) := by
  obtain ⟨t, p, l⟩ := ha
  refine ⟨_, fun i0 => pe_un un_neg (p i0), ?_⟩
  intro F0 H0 σ F H ρ d S h Q q
  unfold m1 at h
  obtain ⟨x, e1, h⟩ := Option.bind_eq_some_iff.mp h
  refine l F0 H0 σ F H ρ x S e1 _ fun v F1 H1 g1 r1 => ?_
  cases r1 <;> simp only [dNeg] at h <;> try (cases h; done)
  cases h
  exact ⟨_, rfl, q _ F1 H1 g1 (.int _)⟩

/-! ### comparisons -/
/-- pairs and the like: tuples of ints -/
def asInts : List D → Option (List Int)
  | [] => some []
  | .int i :: r => (asInts r).map (i :: ·)
  | _ :: _ => none
theorem asInts_rp {H : Hp} : ∀ {vs : List V} {ds : List D} {ns : List Int}, RpAll K H vs ds → asInts ds = some ns → vs = ns.map V.int ∧ ds = ns.map PyData.int
  | _, _, _, .nil, h => by cases h; exact ⟨rfl, rfl⟩
  | _, _, _, .cons hv r, h => by
    cases hv <;> simp only [asInts] at h <;> try (cases h; done)
    rename_i i
    obtain ⟨ms, e, h⟩ := Option.map_eq_some_iff.mp h
    subst h
    obtain ⟨e1, e2⟩ := asInts_rp r e
    subst e1 e2
    exact ⟨rfl, rfl⟩
theorem asInts_map : ∀ ns : List Int, asInts (ns.map PyData.int) = some ns
  | [] => rfl
  | n :: ns => by
    show (asInts (ns.map PyData.int)).map (n :: ·) = _
    rw [asInts_map ns]; rfl
def dLt : D → D → Option D
  | .int a, .int b => some (.bool (decide (a < b)))
  | _, _ => none
def dLe : D → D → Option D
  | .int a, .int b => some (.bool (decide (a ≤ b)))
  | .str a, .str b => some (.bool (!decide (b.cps.toList < a.cps.toList)))
  | _, _ => none
def dGt : D → D → Option D
  | .int a, .int b => some (.bool (decide (b < a)))
  | _, _ => none
def dGe : D → D → Option D
  | .int a, .int b => some (.bool (decide (b ≤ a)))
  | _, _ => none
def dEq : D → D → Option D := fun a b => if SeqAt.shaped a && SeqAt.shaped b then some (.bool (PyData.eqv a b)) else none
def dNe : D → D → Option D := fun a b => if SeqAt.shaped a && SeqAt.shaped b then some (.bool (!PyData.eqv a b)) else none
def dIsN : D → D → Option D
  | a, .none => some (.bool (match a with | .none => true | _ => false))
  | _, _ => none
def dNotN : D → D → Option D
  | a, .none => some (.bool (match a with | .none => false | _ => true))
  | _, _ => none
def dIsB : D → D → Option D
  | .bool a, .bool b => some (.bool (decide (a = b)))
  | _, _ => none
def dNotB : D → D → Option D
  | .bool a, .bool b => some (.bool (!decide (a = b)))
  | _, _ => none
theorem ol_lt : OpL T K (rI0 fun i j => .bl (decide (i < j))) dLt := by
  intro F H x y dx dy d s rx ry h Q q
  cases rx <;> cases ry <;> simp only [dLt] at h <;> try (cases h; done)
  cases h
  exact ⟨_, _, rfl, rfl, q _ F H (Grow.refl s) (.bl _)⟩
def rLe2 : R2 := fun x y H Q => rI0 (fun i j => V.bl (decide (i ≤ j))) x y H Q ∨ (∃ i j, x = V.str i ∧ y = V.str j ∧ Q (.bl (!decide (j.cps.toList < i.cps.toList))) H)
theorem op_le2 {Y : Cx} : OpR Y (compareOp .LtE) rLe2 := OpR.or op_le op_le_str
theorem ol_le : OpL T K rLe2 dLe := by
  intro F H x y dx dy d s rx ry h Q q
  cases rx <;> cases ry <;> simp only [dLe] at h <;> try (cases h; done)
  · cases h
    exact .inl ⟨_, _, rfl, rfl, q _ F H (Grow.refl s) (.bl _)⟩
  · cases h
    exact .inr ⟨_, _, rfl, rfl, q _ F H (Grow.refl s) (.bl _)⟩
theorem ol_gt : OpL T K (rI0 fun i j => .bl (decide (j < i))) dGt := by
  intro F H x y dx dy d s rx ry h Q q
  cases rx <;> cases ry <;> simp only [dGt] at h <;> try (cases h; done)
  cases h
  exact ⟨_, _, rfl, rfl, q _ F H (Grow.refl s) (.bl _)⟩
theorem ol_ge : OpL T K (rI0 fun i j => .bl (decide (j ≤ i))) dGe := by
  intro F H x y dx dy d s rx ry h Q q
  cases rx <;> cases ry <;> simp only [dGe] at h <;> try (cases h; done)
  cases h
  exact ⟨_, _, rfl, rfl, q _ F H (Grow.refl s) (.bl _)⟩
theorem ol_eq : OpL T K (rEqD K) dEq := by
  intro F H x y dx dy d s rx ry h Q q
  unfold dEq at h
  split at h
  · rename_i hz
    rw [Bool.and_eq_true] at hz
    cases h
    exact ⟨dx, dy, (rx.mono s.same).dps hz.1, (ry.mono s.same).dps hz.2, hz.1, hz.2, q _ F H (Grow.refl s) (.bl _)⟩
  · cases h
theorem ol_ne : OpL T K (rNeD K) dNe := by
  intro F H x y dx dy d s rx ry h Q q
  unfold dNe at h
  split at h
  · rename_i hz
    rw [Bool.and_eq_true] at hz
    cases h
    exact ⟨dx, dy, (rx.mono s.same).dps hz.1, (ry.mono s.same).dps hz.2, hz.1, hz.2, q _ F H (Grow.refl s) (.bl _)⟩
  · cases h
theorem ol_isN : OpL T K (fun x y H Q => y = .non ∧ Q (.bl (decide (x = .non))) H) dIsN := by
  intro F H x y dx dy d s rx ry h Q q
  cases ry <;> simp only [dIsN] at h <;> try (cases h; done)
  refine ⟨rfl, ?_⟩
  cases rx <;> cases h <;> exact q _ F H (Grow.refl s) (.bl _)
theorem ol_notN : OpL T K (fun x y H Q => y = .non ∧ Q (.bl (!decide (x = .non))) H) dNotN := by
  intro F H x y dx dy d s rx ry h Q q
  cases ry <;> simp only [dNotN] at h <;> try (cases h; done)
  refine ⟨rfl, ?_⟩
  cases rx <;> cases h <;> exact q _ F H (Grow.refl s) (.bl _)
theorem ol_isB : OpL T K (fun x y H Q => ∃ a b, x = .bl a ∧ y = .bl b ∧ Q (.bl (decide (a = b))) H) dIsB := by
  intro F H x y dx dy d s rx ry h Q q
  cases rx <;> cases ry <;> simp only [dIsB] at h <;> try (cases h; done)
  cases h
  exact ⟨_, _, rfl, rfl, q _ F H (Grow.refl s) (.bl _)⟩
theorem ol_notB : OpL T K (fun x y H Q => ∃ a b, x = .bl a ∧ y = .bl b ∧ Q (.bl (!decide (a = b))) H) dNotB := by
  intro F H x y dx dy d s rx ry h Q q
  cases rx <;> cases ry <;> simp only [dNotB] at h <;> try (cases h; done)
  cases h
  exact ⟨_, _, rfl, rfl, q _ F H (Grow.refl s) (.bl _)⟩
/-- what is compared flat -/
def flatD : D → Bool
  | .none => true
  | .bool _ => true
  | .int _ => true
  | .str _ => true
  | _ => false
theorem flatD_v {H : Hp} {v : V} {d : D} (r : Rp K H v d) (h : flatD d = true) : flatV v = true := by
  cases r <;> first | rfl | (simp only [flatD] at h; cases h)
theorem flatAll_v {H : Hp} : ∀ {vs : List V} {ds : List D}, RpAll K H vs ds → ds.all flatD = true → vs.all flatV = true
  | _, _, .nil, _ => rfl
  | _, _, .cons hv r, h => by
    rw [List.all_cons, Bool.and_eq_true] at h ⊢
    exact ⟨flatD_v hv h.1, flatAll_v r h.2⟩
theorem eqV_eqv {H : Hp} {v w : V} {d e : D} (r : Rp K H v d) (r2 : Rp K H w e) (h : flatD d = true) (h2 : flatD e = true) : eqV v w = PyData.eqv d e := by
  cases r <;> (first | (simp only [flatD] at h; cases h; done) | skip) <;> cases r2 <;> (first | (simp only [flatD] at h2; cases h2; done) | rfl)
theorem inV_any {H : Hp} {w : V} {e : D} (r2 : Rp K H w e) (h2 : flatD e = true) : ∀ {vs : List V} {ds : List D}, RpAll K H vs ds → ds.all flatD = true → inV w vs = ds.any fun z => PyData.eqv z e
  | _, _, .nil, _ => rfl
  | _, _, .cons hv r, h => by
    rw [List.all_cons, Bool.and_eq_true] at h
    show (eqV _ w || inV w _) = (_ || _)
    rw [eqV_eqv hv r2 h.1 h2, inV_any r2 h2 r h.2]
/-- x in y -/
def inD : D → D → Option Bool
  | .str x, .str z => match x.cps with
    | ⟨[c]⟩ => some (decide (c ∈ z.cps.toList))
    | _ => none
  | x, .list ys => if flatD x && ys.all flatD then some (ys.any fun z => PyData.eqv z x) else if SeqAt.shaped x && SeqAt.shaped (.list ys) then some (ys.any fun z => PyData.eqv z x) else none
  | x, .tuple ys => if flatD x && ys.all flatD then some (ys.any fun z => PyData.eqv z x) else none
  | _, _ => none
def dIn : D → D → Option D := fun x y => (inD x y).map fun b => .bool b
def dNotIn : D → D → Option D := fun x y => (inD x y).map fun b => .bool (!b)
def rIn3 (K : PySem.W.Frag) : R2 := fun x y H Q => rInS x y H Q ∨ rIn K false x y H Q ∨ rInD K x y H Q
def rNotIn3 (K : PySem.W.Frag) : R2 := fun x y H Q => rNotInS x y H Q ∨ rIn K true x y H Q ∨ rNotInD K x y H Q
theorem op_in3 {Y : Cx} (hu : Y.A.units + 65 < cLine) : OpR Y (compareOp .In) (rIn3 Y.K) := OpR.or op_inS (OpR.or op_in_seq (op_inD hu))
theorem op_notIn3 {Y : Cx} (hu : Y.A.units + 65 < cLine) : OpR Y (compareOp .NotIn) (rNotIn3 Y.K) := OpR.or op_notInS (OpR.or op_notIn_seq (op_notInD hu))
theorem inD_str {x z : Str} {b : Bool} (h : inD (.str x) (.str z) = some b) : ∃ c, x = ⟨#[c]⟩ ∧ b = decide (c ∈ z.cps.toList) := by
  obtain ⟨⟨l⟩⟩ := x
  match l, h with
  | [c], h =>
    simp only [inD] at h
    exact ⟨c, rfl, (Option.some.inj h).symm⟩
  | [], h => simp [inD] at h
  | _ :: _ :: _, h => simp [inD] at h
theorem inD_list {x : D} {ys : List D} {b : Bool} (h : inD x (.list ys) = some b) : b = (ys.any fun z => PyData.eqv z x) ∧ ((flatD x = true ∧ ys.all flatD = true) ∨ (SeqAt.shaped x = true ∧ SeqAt.shaped (.list ys) = true)) := by
  have h' : (if flatD x && ys.all flatD then some (ys.any fun z => PyData.eqv z x) else if SeqAt.shaped x && SeqAt.shaped (.list ys) then some (ys.any fun z => PyData.eqv z x) else Option.none) = some b := by
    cases x <;> exact h
  split at h'
  · rename_i hz
    rw [Bool.and_eq_true] at hz
    exact ⟨(Option.some.inj h').symm, .inl hz⟩
  · split at h'
    · rename_i hz
      rw [Bool.and_eq_true] at hz
      exact ⟨(Option.some.inj h').symm, .inr hz⟩
    · cases h'
theorem inD_tuple {x : D} {ys : List D} {b : Bool} (h : inD x (.tuple ys) = some b) : b = (ys.any fun z => PyData.eqv z x) ∧ flatD x = true ∧ ys.all flatD = true := by
  have h' : (if flatD x && ys.all flatD then some (ys.any fun z => PyData.eqv z x) else Option.none) = some b := by
    cases x <;> exact h
  split at h'
  · rename_i hz
    rw [Bool.and_eq_true] at hz
    exact ⟨(Option.some.inj h').symm, hz⟩
  · cases h'
theorem inD_cases {F H : Hp} {x y : V} {dx dy : D} {b : Bool} (s : Sub T F H) (rx : Rp K F x dx) (ry : Rp K F y dy) (h : inD dx dy = some b) :
    (∃ (c : Nat) (z : Str), x = .str ⟨#[c]⟩ ∧ y = .str z ∧ b = decide (c ∈ z.cps.toList)) ∨
    (∃ p xs, y = .ref p ∧ (SqL K H p xs ∨ SqT K H p xs) ∧ flatV x = true ∧ xs.all flatV = true ∧ b = inV x xs) ∨
    (∃ d ds, Dp K H x d ∧ Dp K H y (.list ds) ∧ SeqAt.shaped d = true ∧ SeqAt.shaped (.list ds) = true ∧ b = ds.any fun z => PyData.eqv z d) := by
  cases ry with
  | non => cases dx <;> simp [inD] at h
  | bl _ => cases dx <;> simp [inD] at h
  | int _ => cases dx <;> simp [inD] at h
  | dct _ _ => cases dx <;> simp [inD] at h
  | str z =>
    cases rx <;> (first | (simp [inD] at h; done) | skip)
    obtain ⟨c, e, h2⟩ := inD_str h
    subst e
    exact .inl ⟨c, z, rfl, rfl, h2⟩
  | lst hs r =>
    obtain ⟨e, h | h⟩ := inD_list h
    · exact .inr (.inl ⟨_, _, rfl, .inl (s.same.seq hs), flatD_v rx h.1, flatAll_v r h.2, by rw [e, inV_any rx h.1 r h.2]⟩)
    · exact .inr (.inr ⟨dx, _, (rx.mono s.same).dps h.1, ((Rp.lst hs r).mono s.same).dps h.2, h.1, h.2, e⟩)
  | tup hs r =>
    obtain ⟨e, h1, h2⟩ := inD_tuple h
    exact .inr (.inl ⟨_, _, rfl, .inr (SqT_same s.same hs), flatD_v rx h1, flatAll_v r h2, by rw [e, inV_any rx h1 r h2]⟩)
theorem ol_in : OpL T K (rIn3 K) dIn := by
  intro F H x y dx dy d s rx ry h Q q
  unfold dIn at h
  obtain ⟨b, e, h⟩ := Option.map_eq_some_iff.mp h
  subst h
  have fin : Q (.bl b) H := q _ F H (Grow.refl s) (.bl b)
  rcases inD_cases s rx ry e with ⟨c, z, rfl, rfl, rfl⟩ | ⟨p, xs, rfl, h1, h2, h3, rfl⟩ | ⟨d1, ds, h1, h2, h3, h4, rfl⟩
  · exact .inl ⟨c, z, rfl, rfl, fin⟩
  · exact .inr (.inl ⟨p, xs, rfl, h1, h2, h3, fin⟩)
  · exact .inr (.inr ⟨d1, ds, h1, h2, h3, h4, fin⟩)
theorem ol_notIn : OpL T K (rNotIn3 K) dNotIn := by
  intro F H x y dx dy d s rx ry h Q q
  unfold dNotIn at h
  obtain ⟨b, e, h⟩ := Option.map_eq_some_iff.mp h
  subst h
  have fin : Q (.bl (!b)) H := q _ F H (Grow.refl s) (.bl _)
  rcases inD_cases s rx ry e with ⟨c, z, rfl, rfl, rfl⟩ | ⟨p, xs, rfl, h1, h2, h3, rfl⟩ | ⟨d1, ds, h1, h2, h3, h4, rfl⟩
  · exact .inl ⟨c, z, rfl, rfl, fin⟩
  · exact .inr (.inl ⟨p, xs, rfl, h1, h2, h3, fin⟩)
  · exact .inr (.inr ⟨d1, ds, h1, h2, h3, h4, fin⟩)

/-! ### chains: a < b <= c -/
def mChain (f g : D → D → Option D) (a b c : M D) : M D := fun ρ => (a ρ).bind fun x => (b ρ).bind fun y => (f x y).bind fun z => match z with
  | .bool true => (c ρ).bind fun w => g y w
  | .bool false => some (.bool false)
  | _ => none
theorem el_chain {r r' : R2} {f g : D → D → Option D} {ta tb tc : TE} {a b c : M D} (ho : OpL T K r f) (ho' : OpL T K r' g) (ha : EL T K ta a) (hb : EL T K tb b) (hc : EL T K tc c) : EL T K (tChain r r' ta tb tc) (mChain f g a b c) := by
  intro F0 H0 σ F H ρ d S h Q q
  unfold mChain at h
  obtain ⟨x, e1, h⟩ := Option.bind_eq_some_iff.mp h
  obtain ⟨y, e2, h⟩ := Option.bind_eq_some_iff.mp h
  obtain ⟨z, e3, h⟩ := Option.bind_eq_some_iff.mp h
  refine ha F0 H0 σ F H ρ x S e1 _ fun v F1 H1 g1 r1 => ?_
  have S1 := S.grow g1
  refine hb F0 H0 σ F1 H1 ρ y S1 e2 _ fun u F2 H2 g2 r2 => ?_
  have S2 := S1.grow g2
  refine ho F2 H2 v u x y z g2.s (r1.mono g2.f) r2 e3 _ fun zz F3 H3 g3 r3 => ?_
  have S3 := S2.grow g3
  split at h
  · cases r3
    refine ⟨true, rfl, ?_⟩
    rw [if_pos rfl]
    obtain ⟨w, e4, h⟩ := Option.bind_eq_some_iff.mp h
    refine hc F0 H0 σ F3 H3 ρ w S3 e4 _ fun ww F4 H4 g4 r4 => ?_
    exact ho' F4 H4 u ww y w d g4.s (r2.mono (g3.trans g4).f) r4 h Q fun vv F5 H5 g5 r5 => q vv F5 H5 ((((g1.trans g2).trans g3).trans g4).trans g5) r5
  · cases r3
    cases h
    refine ⟨false, rfl, ?_⟩
    rw [if_neg Bool.false_ne_true]
    exact q _ F3 H3 ((g1.trans g2).trans g3) (.bl false)
  · cases h
theorem xd_chain {r r' : R2} {f g : D → D → Option D} {op op' : CmpOp} {a b c : Expr} {ma mb mc : M D} {pos : Pos} (hr : ∀ i0, OpR (X i0) (compareOp op) r) (hr' : ∀ i0, OpR (X i0) (compareOp op') r') (ho : OpL T K r f) (ho' : OpL T K r' g) (ha : XD X T K a ma) (hb : XD X T K b mb) (hc : XD X T K c mc)
    (hl : lastMarks [op, op'] [b, c] = false := by rfl) : XD X T K (.Compare a [op, op'] [b, c] pos) (mChain f g ma mb mc) := by
  obtain ⟨t, p, l⟩ := ha
  obtain ⟨t2, p2, l2⟩ := hb
  obtain ⟨t3, p3, l3⟩ := hc
  exact ⟨_, fun i0 => pe_chain (hr i0) (hr' i0) (p i0) (p2 i0) (p3 i0) hl, el_chain ho ho' l l2 l3⟩
theorem xt_chain {r r' : R2} {f g : D → D → Option D} {op op' : CmpOp} {a b c : Expr} {ma mb mc : M D} {pos : Pos} (hr : ∀ i0, OpR (X i0) (compareOp op) r) (hr' : ∀ i0, OpR (X i0) (compareOp op') r') (ho : OpL T K r f) (ho' : OpL T K r' g) (ha : XD X T K a ma) (hb : XD X T K b mb) (hc : XD X T K c mc)
    (hl : lastMarks [op, op'] [b, c] = false := by rfl) : XT X T K (.Compare a [op, op'] [b, c] pos) (mB (mChain f g ma mb mc)) := by
  obtain ⟨t, p, l⟩ := ha
  obtain ⟨t2, p2, l2⟩ := hb
  obtain ⟨t3, p3, l3⟩ := hc
  exact ⟨_, fun i0 => pt_chain (hr i0) (hr' i0) (p i0) (p2 i0) (p3 i0) hl, tl_test (el_chain ho ho' l l2 l3)⟩

/-! ### subscripts, slices -/
def dIx : D → D → Option D
  | .list xs, .int i => atI xs i
  | .tuple xs, .int i => atI xs i
  | .str z, .int i => if z.length ≤ sizeLine then (atI z.cps.toList i).map fun c => .str ⟨#[c]⟩ else none
  | _, _ => none
theorem atI_rp {H : Hp} {vs : List V} {ds : List D} {i : Int} {d : D} (r : RpAll K H vs ds) (h : atI ds i = some d) : ∃ v, atI vs i = some v ∧ Rp K H v d := by
  unfold atI at h ⊢
  rw [r.length]
  obtain ⟨j, e, h⟩ := Option.bind_eq_some_iff.mp h
  obtain ⟨v, e2, r2⟩ := r.got h
  exact ⟨v, by rw [e]; exact e2, r2⟩
theorem ol_ix : OpL T K (rIx K) dIx := by
  intro F H x y dx dy d s rx ry h Q q
  cases ry <;> (first | (cases rx <;> simp only [dIx] at h <;> cases h; done) | skip)
  rename_i i
  cases rx <;> simp only [dIx] at h <;> try (cases h; done)
  · rename_i z
    split at h
    · rename_i hz
      obtain ⟨c, e, h⟩ := Option.map_eq_some_iff.mp h
      subst h
      exact .inr (.inr ⟨z, i, c, rfl, rfl, hz, e, q _ F H (Grow.refl s) (.str _)⟩)
    · cases h
  · rename_i a xs ds hs r
    obtain ⟨v, e, r2⟩ := atI_rp r h
    exact .inl ⟨a, xs, i, v, rfl, rfl, s.same.seq hs, e, q v F H (Grow.refl s) r2⟩
  · rename_i a xs ds hs r
    obtain ⟨v, e, r2⟩ := atI_rp r h
    exact .inr (.inl ⟨a, xs, i, v, rfl, rfl, SqT_same s.same hs, e, q v F H (Grow.refl s) r2⟩)
theorem xd_ix {a b : Expr} {ma mb : M D} {pos : Pos} (ha : XD X T K a ma) (hb : XD X T K b mb) (hp : PlainIx b := by intro _ _; rfl) (k : ∀ i0, (X i0).K = K := by intro _; rfl) : XD X T K (.Subscript a b pos) (m2 dIx ma mb) := by
  obtain ⟨t, p, l⟩ := ha
  obtain ⟨u, p2, l2⟩ := hb
  exact ⟨tOp (rIx K) t u, fun i0 => by have e := k i0; subst e; exact pe_ix ix_seq (p i0) (p2 i0) hp, el_op ol_ix l l2⟩
/-- an end of a slice -/
def OL (T : List (Addr × Str)) (K : PySem.W.Frag) (to : TO) (m : M (Option Int)) : Prop := ∀ (F0 H0 : Hp) (σ : St) (F H : Hp) (ρ : Fr) (o : Option Int), State T K F0 H0 σ F H ρ → m ρ = some o →
  ∀ Q : Option Int → Hp → Prop, (∀ F' H', Grow T F H F' H' → Q o H') → to σ H Q
def XO {ι : Type} (X : ι → Cx) (T : List (Addr × Str)) (K : PySem.W.Frag) (e : Option Expr) (m : M (Option Int)) : Prop := ∃ t, (∀ i, PO (X i) e t) ∧ OL T K t m
def mNo : M (Option Int) := fun _ => some none
def mSo (a : M D) : M (Option Int) := fun ρ => (a ρ).bind fun x => match x with
  | .int i => some (some i)
  | _ => none
theorem xo_none : XO X T K none mNo := ⟨_, fun i0 => po_none, by
  intro F0 H0 σ F H ρ o S h Q q
  cases h
  exact q F H (Grow.refl S.s)⟩
theorem xo_some {e : Expr} {a : M D} (ha : XD X T K e a) : XO X T K (some e) (mSo a) := by
  obtain ⟨t, p, l⟩ := ha
  refine ⟨_, fun i0 => po_some (p i0), ?_⟩
  intro F0 H0 σ F H ρ o S h Q q
  unfold mSo at h
  obtain ⟨x, e1, h⟩ := Option.bind_eq_some_iff.mp h
  refine l F0 H0 σ F H ρ x S e1 _ fun v F1 H1 g1 r1 => ?_
  split at h
  · cases r1
    cases h
    exact ⟨_, rfl, q F1 H1 g1⟩
  · cases h
def cutD (ds : List D) (lo hi : Option Int) : List D := (ds.drop (HT.sIx ds.length 0 lo)).take (HT.sIx ds.length ds.length hi - HT.sIx ds.length 0 lo)
theorem cut_rp {H : Hp} {vs : List V} {ds : List D} (r : RpAll K H vs ds) (lo hi : Option Int) : RpAll K H (cutV vs lo hi) (cutD ds lo hi) := by
  unfold cutV cutD
  rw [r.length]
  exact (r.drop _).take _
def dSl : D → Option Int → Option Int → Option D
  | .list xs, lo, hi => some (.list (cutD xs lo hi))
  | .tuple xs, lo, hi => some (.tuple (cutD xs lo hi))
  | .str z, lo, hi => if z.length ≤ sizeLine then some (.str (cutS z lo hi)) else none
  | _, _, _ => none
def rSl3 (K : PySem.W.Frag) : V → Option Int → Option Int → Hp → VK → Prop := fun x lo hi H Q => rSlL K x lo hi H Q ∨ rSlA K x lo hi H Q ∨ rSlS x lo hi H Q
theorem sl3 {Y : Cx} : SlR Y (rSl3 Y.K) := SlR.or sl_list (SlR.or sl_tupA sl_str)
theorem sl_of {F H : Hp} {x : V} {dx d : D} {lo hi : Option Int} (s : Sub T F H) (rx : Rp K F x dx) (h : dSl dx lo hi = some d) (Q : VK) (q : ∀ v F' H', Grow T F H F' H' → Rp K F' v d → Q v H') : rSl3 K x lo hi H Q := by
  cases rx <;> simp only [dSl] at h <;> try (cases h; done)
  · rename_i z
    split at h
    · rename_i hz
      cases h
      exact .inr (.inr ⟨z, rfl, hz, q _ F H (Grow.refl s) (.str _)⟩)
    · cases h
  · rename_i a xs ds hs r
    cases h
    refine .inl ⟨a, xs, rfl, s.same.seq hs, fun p hp => ?_⟩
    have g := Grow.new (T := T) (o := .lst (cutV xs lo hi)) s hp
    exact q _ _ _ g (.lst (SqL.of upd_same) ((cut_rp r lo hi).mono g.f))
  · rename_i a xs ds hs r
    cases h
    refine .inr (.inl ⟨a, xs, rfl, SqT_same s.same hs, fun e => ?_, fun e p hp => ?_⟩)
    · have e2 : cutD ds lo hi = ds := by
        unfold cutD
        rw [← r.length, e.1, e.2]
        simp [r.length]
      rw [e2] at q
      exact q _ F H (Grow.refl s) (.tup hs r)
    · have g := Grow.new (T := T) (o := .tup (cutV xs lo hi)) s hp
      exact q _ _ _ g (.tup (SqT.of upd_same) ((cut_rp r lo hi).mono g.f))
def mSl (a : M D) (lo hi : M (Option Int)) : M D := fun ρ => (a ρ).bind fun x => (lo ρ).bind fun l => (hi ρ).bind fun u => dSl x l u
theorem xd_slice {e : Expr} {lo hi : Option Expr} {a : M D} {l u : M (Option Int)} {pos p2 : Pos} (ha : XD X T K e a) (hl : XO X T K lo l) (hu : XO X T K hi u) (k : ∀ i0, (X i0).K = K := by intro _; rfl) : XD X T K (.Subscript e (.Slice lo hi none p2) pos) (mSl a l u) := by
  obtain ⟨t, p, l1⟩ := ha
  obtain ⟨t2, p2, l2⟩ := hl
  obtain ⟨t3, p3, l3⟩ := hu
  refine ⟨tSl (rSl3 K) t t2 t3, fun i0 => by have e := k i0; subst e; exact pe_slice sl3 (p i0) (p2 i0) (p3 i0), ?_⟩
  intro F0 H0 σ F H ρ d S h Q q
  unfold mSl at h
  obtain ⟨x, e1, h⟩ := Option.bind_eq_some_iff.mp h
  obtain ⟨lo', e2, h⟩ := Option.bind_eq_some_iff.mp h
  obtain ⟨hi', e3, h⟩ := Option.bind_eq_some_iff.mp h
  refine l1 F0 H0 σ F H ρ x S e1 _ fun v F1 H1 g1 r1 => ?_
  have S1 := S.grow g1
  refine l2 F0 H0 σ F1 H1 ρ lo' S1 e2 _ fun F2 H2 g2 => ?_
  have S2 := S1.grow g2
  refine l3 F0 H0 σ F2 H2 ρ hi' S2 e3 _ fun F3 H3 g3 => ?_
  exact sl_of g3.s (r1.mono (g2.trans g3).f) h Q fun w F4 H4 g4 r4 => q w F4 H4 (((g1.trans g2).trans g3).trans g4) r4

/-! ### displays -/
def dLst (xs : List D) : Option D := if xs.length ≤ sizeLine then some (.list xs) else none
def dTup (xs : List D) : Option D := if xs.length ≤ sizeLine then some (.tuple xs) else none
theorem xd_lst {es : List Expr} {m : M (List D)} {pos : Pos} (ha : XA X T K es m) : XD X T K (.List es pos) (mA dLst m) := by
  obtain ⟨t, p, l⟩ := ha
  refine ⟨_, fun i0 => pe_lst (p i0), ?_⟩
  intro F0 H0 σ F H ρ d S h Q q
  unfold mA at h
  obtain ⟨xs, e1, h⟩ := Option.bind_eq_some_iff.mp h
  refine l F0 H0 σ F H ρ xs S e1 _ fun vs F1 H1 g1 r1 => ?_
  unfold dLst at h
  split at h
  · rename_i hz
    cases h
    refine ⟨by rw [r1.length]; exact hz, fun p hp => ?_⟩
    have g := Grow.new (T := T) (o := .lst vs) g1.s hp
    exact q _ _ _ (g1.trans g) (.lst (SqL.of upd_same) (r1.mono g.f))
  · cases h
theorem xd_tup {es : List Expr} {m : M (List D)} {k : Nat} {pos : Pos} (ha : XA X T K es m) : XD X T K (.Tuple es k pos) (mA dTup m) := by
  obtain ⟨t, p, l⟩ := ha
  refine ⟨_, fun i0 => pe_tup (p i0), ?_⟩
  intro F0 H0 σ F H ρ d S h Q q
  unfold mA at h
  obtain ⟨xs, e1, h⟩ := Option.bind_eq_some_iff.mp h
  refine l F0 H0 σ F H ρ xs S e1 _ fun vs F1 H1 g1 r1 => ?_
  unfold dTup at h
  split at h
  · rename_i hz
    cases h
    refine ⟨by rw [r1.length]; exact hz, fun p hp => ?_⟩
    have g := Grow.new (T := T) (o := .tup vs) g1.s hp
    exact q _ _ _ (g1.trans g) (.tup (SqT.of upd_same) (r1.mono g.f))
  · cases h

/-! ### the comparisons, over a family of contexts -/
theorem room65 {k : Nat} {A : Around} (r : Room k A) : A.units + 65 < cLine := by have := r.un; omega
theorem opk_lt : ∀ i0, OpR (X i0) (compareOp .Lt) (rI0 fun i j => .bl (decide (i < j))) := fun _ => op_lt
theorem opk_le : ∀ i0, OpR (X i0) (compareOp .LtE) rLe2 := fun _ => op_le2
theorem opk_gt : ∀ i0, OpR (X i0) (compareOp .Gt) (rI0 fun i j => .bl (decide (j < i))) := fun _ => op_gt
theorem opk_ge : ∀ i0, OpR (X i0) (compareOp .GtE) (rI0 fun i j => .bl (decide (j ≤ i))) := fun _ => op_ge
theorem opk_eq (hu : ∀ i0, (X i0).A.units + 65 < cLine) (k : ∀ i0, (X i0).K = K := by intro _; rfl) : ∀ i0, OpR (X i0) (compareOp .Eq) (rEqD K) := fun i0 => by
  have e := k i0
  subst e
  exact op_eqD (by have := hu i0; omega)
theorem opk_ne (hu : ∀ i0, (X i0).A.units + 65 < cLine) (k : ∀ i0, (X i0).K = K := by intro _; rfl) : ∀ i0, OpR (X i0) (compareOp .NotEq) (rNeD K) := fun i0 => by
  have e := k i0
  subst e
  exact op_neD (by have := hu i0; omega)
theorem opk_isN : ∀ i0, OpR (X i0) (compareOp .Is) (fun x y H Q => y = .non ∧ Q (.bl (decide (x = .non))) H) := fun _ => op_isN
theorem opk_notN : ∀ i0, OpR (X i0) (compareOp .IsNot) (fun x y H Q => y = .non ∧ Q (.bl (!decide (x = .non))) H) := fun _ => op_notN
theorem opk_isB : ∀ i0, OpR (X i0) (compareOp .Is) (fun x y H Q => ∃ a b, x = .bl a ∧ y = .bl b ∧ Q (.bl (decide (a = b))) H) := fun _ => op_is_bl
theorem opk_notB : ∀ i0, OpR (X i0) (compareOp .IsNot) (fun x y H Q => ∃ a b, x = .bl a ∧ y = .bl b ∧ Q (.bl (!decide (a = b))) H) := fun _ => op_isnot_bl
theorem opk_in (hu : ∀ i0, (X i0).A.units + 65 < cLine) (k : ∀ i0, (X i0).K = K := by intro _; rfl) : ∀ i0, OpR (X i0) (compareOp .In) (rIn3 K) := fun i0 => by
  have e := k i0
  subst e
  exact op_in3 (hu i0)
theorem opk_notIn (hu : ∀ i0, (X i0).A.units + 65 < cLine) (k : ∀ i0, (X i0).K = K := by intro _; rfl) : ∀ i0, OpR (X i0) (compareOp .NotIn) (rNotIn3 K) := fun i0 => by
  have e := k i0
  subst e
  exact op_notIn3 (hu i0)
end
end Pd

namespace Pd
open PySem PySem.Spec PyProof.Rows L2
section
variable {ι : Type} {T : List (Addr × Str)} {K : PySem.W.Frag} {X : ι → Cx}
/-! ### calls of built-ins -/
def CL (T : List (Addr × Str)) (K : PySem.W.Frag) (r : List V → Hp → VK → Prop) (f : List D → Option D) : Prop := ∀ (F H : Hp) (vs : List V) (ds : List D) (d : D), Sub T F H → RpAll K F vs ds → f ds = some d →
  ∀ Q : VK, (∀ v F' H', Grow T F H F' H' → Rp K F' v d → Q v H') → r vs H Q
theorem el_cb {r : List V → Hp → VK → Prop} {f : List D → Option D} {ta : TA} {m : M (List D)} (hc : CL T K r f) (ha : AL T K ta m) : EL T K (tCB r ta) (mA f m) := by
  intro F0 H0 σ F H ρ d S h Q q
  unfold mA at h
  obtain ⟨xs, e1, h⟩ := Option.bind_eq_some_iff.mp h
  refine ha F0 H0 σ F H ρ xs S e1 _ fun vs F1 H1 g1 r1 => ?_
  exact hc F1 H1 vs xs d g1.s r1 h Q fun v F2 H2 g2 r2 => q v F2 H2 (g1.trans g2) r2
theorem xd_callB {x : Str} {id : String} {r : List V → Hp → VK → Prop} {f : List D → Option D} {e : Expr} {es : List Expr} {m : M (List D)} {p pos : Pos} (hc : ∀ i0, CallR (X i0) (.builtin id) r) (hf : CL T K r f) (hm : ∀ i0, (X i0).mg x = none) (hv : bootBuiltins x = some (.builtin id)) (ha : XA X T K (e :: es) m)
    (hg : ∀ i0, Gl (X i0) x := by intro _; rfl) (hn : x ≠ "__name__" := by decide) (hdb : (x == ("__debug__" : Str)) = false := by decide) (he : ∀ i0, starEach (e :: es) (X i0).env = (false, eval e (X i0).env) :: starEach es (X i0).env := by intro _; rfl) (hpl : ∀ i0, (backTo pos (starEach es (X i0).env)).any (·.1) = false := by intro _; rfl) :
    XD X T K (.Call (.Name x p) (e :: es) [] pos) (mA f m) := by
  obtain ⟨t, p1, l⟩ := ha
  exact ⟨_, fun i0 => pe_callB (hc i0) (hg i0) (hm i0) hv (p1 i0) hn hdb (he i0) (hpl i0), el_cb hf l⟩
theorem xd_callTy {x : Str} {Ty : String} {r : List V → Hp → VK → Prop} {f : List D → Option D} {e : Expr} {es : List Expr} {m : M (List D)} {p pos : Pos} (hc : ∀ i0, CallR (X i0) (.type Ty) r) (hf : CL T K r f) (hm : ∀ i0, (X i0).mg x = none) (hv : bootBuiltins x = some (.type Ty)) (ha : XA X T K (e :: es) m)
    (hg : ∀ i0, Gl (X i0) x := by intro _; rfl) (hn : x ≠ "__name__" := by decide) (hdb : (x == ("__debug__" : Str)) = false := by decide) (he : ∀ i0, starEach (e :: es) (X i0).env = (false, eval e (X i0).env) :: starEach es (X i0).env := by intro _; rfl) (hpl : ∀ i0, (backTo pos (starEach es (X i0).env)).any (·.1) = false := by intro _; rfl) :
    XD X T K (.Call (.Name x p) (e :: es) [] pos) (mA f m) := by
  obtain ⟨t, p1, l⟩ := ha
  exact ⟨_, fun i0 => pe_callTy (hc i0) (hg i0) (hm i0) hv (p1 i0) hn hdb (he i0) (hpl i0), el_cb hf l⟩
def rLen3 (K : PySem.W.Frag) : List V → Hp → VK → Prop := fun xs H Q => (∃ p ys, xs = [V.ref p] ∧ (SqL K H p ys ∨ SqT K H p ys) ∧ Q (.int ys.length) H) ∨ (∃ z : Str, xs = [V.str z] ∧ z.length ≤ sizeLine ∧ Q (.int z.length) H)
theorem call_len3 {Y : Cx} : CallR Y (.builtin "len") (rLen3 Y.K) := CallR.or call_len_seq call_len_str
def dLen : List D → Option D
  | [.str z] => if z.length ≤ sizeLine then some (.int z.length) else none
  | [.list xs] => some (.int xs.length)
  | [.tuple xs] => some (.int xs.length)
  | _ => none
theorem rp1 {H : Hp} {vs : List V} {d : D} (r : RpAll K H vs [d]) : ∃ v, vs = [v] ∧ Rp K H v d := by
  cases r with
  | cons h r => cases r; exact ⟨_, rfl, h⟩
theorem rp2 {H : Hp} {vs : List V} {d e : D} (r : RpAll K H vs [d, e]) : ∃ v w, vs = [v, w] ∧ Rp K H v d ∧ Rp K H w e := by
  cases r with
  | cons h r =>
    cases r with
    | cons h2 r => cases r; exact ⟨_, _, rfl, h, h2⟩
theorem cl_len : CL T K (rLen3 K) dLen := by
  intro F H vs ds d s r h Q q
  match ds, h with
  | [.str z], h =>
    simp only [dLen] at h
    split at h
    · rename_i hz
      cases h
      obtain ⟨v, rfl, rv⟩ := rp1 r
      cases rv
      exact .inr ⟨z, rfl, hz, q _ F H (Grow.refl s) (.int _)⟩
    · cases h
  | [.list xs], h =>
    cases h
    obtain ⟨v, rfl, rv⟩ := rp1 r
    cases rv with
    | lst hs ra =>
      rw [← ra.length] at q
      exact .inl ⟨_, _, rfl, .inl (s.same.seq hs), q _ F H (Grow.refl s) (.int _)⟩
  | [.tuple xs], h =>
    cases h
    obtain ⟨v, rfl, rv⟩ := rp1 r
    cases rv with
    | tup hs ra =>
      rw [← ra.length] at q
      exact .inl ⟨_, _, rfl, .inr (SqT_same s.same hs), q _ F H (Grow.refl s) (.int _)⟩
/-- a list of truths -/
def asBools : List D → Option (List Bool)
  | [] => some []
  | .bool b :: r => (asBools r).map (b :: ·)
  | _ :: _ => none
theorem asBools_rp {H : Hp} : ∀ {vs : List V} {ds : List D} {bs : List Bool}, RpAll K H vs ds → asBools ds = some bs → vs = bs.map V.bl ∧ ds = bs.map PyData.bool
  | _, _, _, .nil, h => by cases h; exact ⟨rfl, rfl⟩
  | _, _, _, .cons hv r, h => by
    cases hv <;> simp only [asBools] at h <;> try (cases h; done)
    obtain ⟨ms, e, h⟩ := Option.map_eq_some_iff.mp h
    subst h
    obtain ⟨e1, e2⟩ := asBools_rp r e
    subst e1 e2
    exact ⟨rfl, rfl⟩
theorem asBools_map : ∀ bs : List Bool, asBools (bs.map PyData.bool) = some bs
  | [] => rfl
  | b :: bs => by
    show (asBools (bs.map PyData.bool)).map (b :: ·) = _
    rw [asBools_map bs]; rfl
def dAll : List D → Option D
  | [.list xs] => (asBools xs).map fun bs => .bool (bs.all id)
  | _ => none
def dAny : List D → Option D
  | [.list xs] => (asBools xs).map fun bs => .bool (bs.any id)
  | _ => none
theorem cl_all : CL T K (rAll K) dAll := by
  intro F H vs ds d s r h Q q
  match ds, h with
  | [.list xs], h =>
    obtain ⟨bs, e, h⟩ := Option.map_eq_some_iff.mp h
    subst h
    obtain ⟨v, rfl, rv⟩ := rp1 r
    cases rv with
    | lst hs ra =>
      obtain ⟨e1, _⟩ := asBools_rp ra e
      subst e1
      exact ⟨_, bs, rfl, s.same.seq hs, q _ F H (Grow.refl s) (.bl _)⟩
theorem cl_any : CL T K (rAny K) dAny := by
  intro F H vs ds d s r h Q q
  match ds, h with
  | [.list xs], h =>
    obtain ⟨bs, e, h⟩ := Option.map_eq_some_iff.mp h
    subst h
    obtain ⟨v, rfl, rv⟩ := rp1 r
    cases rv with
    | lst hs ra =>
      obtain ⟨e1, _⟩ := asBools_rp ra e
      subst e1
      exact ⟨_, bs, rfl, s.same.seq hs, q _ F H (Grow.refl s) (.bl _)⟩
def dAbs : List D → Option D
  | [.int i] => some (.int (if i < 0 then -i else i))
  | _ => none
theorem cl_abs : CL T K (fun xs H Q => ∃ i, xs = [V.int i] ∧ Q (.int (if i < 0 then -i else i)) H) dAbs := by
  intro F H vs ds d s r h Q q
  match ds, h with
  | [.int i], h =>
    cases h
    obtain ⟨v, rfl, rv⟩ := rp1 r
    cases rv
    exact ⟨i, rfl, q _ F H (Grow.refl s) (.int _)⟩
def dMax2 : List D → Option D
  | [.int i, .int j] => some (.int (if j > i then j else i))
  | _ => none
def dMin2 : List D → Option D
  | [.int i, .int j] => some (.int (if j < i then j else i))
  | _ => none
theorem cl_max2 : CL T K (fun xs H Q => ∃ i j, xs = [V.int i, V.int j] ∧ Q (.int (if j > i then j else i)) H) dMax2 := by
  intro F H vs ds d s r h Q q
  match ds, h with
  | [.int i, .int j], h =>
    cases h
    obtain ⟨v, w, rfl, rv, rw⟩ := rp2 r
    cases rv
    cases rw
    exact ⟨i, j, rfl, q _ F H (Grow.refl s) (.int _)⟩
theorem cl_min2 : CL T K (fun xs H Q => ∃ i j, xs = [V.int i, V.int j] ∧ Q (.int (if j < i then j else i)) H) dMin2 := by
  intro F H vs ds d s r h Q q
  match ds, h with
  | [.int i, .int j], h =>
    cases h
    obtain ⟨v, w, rfl, rv, rw⟩ := rp2 r
    cases rv
    cases rw
    exact ⟨i, j, rfl, q _ F H (Grow.refl s) (.int _)⟩
def dInt : List D → Option D
  | [.int i] => some (.int i)
  | [.bool b] => some (.int (if b = true then 1 else 0))
  | _ => none
theorem cl_int : CL T K (fun xs H Q => (∃ i, xs = [V.int i] ∧ Q (.int i) H) ∨ ∃ k, xs = [V.bl k] ∧ Q (.int (if k = true then 1 else 0)) H) dInt := by
  intro F H vs ds d s r h Q q
  match ds, h with
  | [.int i], h =>
    cases h
    obtain ⟨v, rfl, rv⟩ := rp1 r
    cases rv
    exact .inl ⟨i, rfl, q _ F H (Grow.refl s) (.int _)⟩
  | [.bool b], h =>
    cases h
    obtain ⟨v, rfl, rv⟩ := rp1 r
    cases rv
    exact .inr ⟨b, rfl, q _ F H (Grow.refl s) (.int _)⟩
def dStr : List D → Option D
  | [.int i] => if i.natAbs.log2 < 1920 then some (.str (Str.ofString (toString i))) else none
  | _ => none
theorem cl_str : CL T K (fun xs H Q => ∃ i : Int, xs = [V.int i] ∧ i.natAbs.log2 < 1920 ∧ Q (.str (Str.ofString (toString i))) H) dStr := by
  intro F H vs ds d s r h Q q
  match ds, h with
  | [.int i], h =>
    simp only [dStr] at h
    split at h
    · rename_i hz
      cases h
      obtain ⟨v, rfl, rv⟩ := rp1 r
      cases rv
      exact ⟨i, rfl, hz, q _ F H (Grow.refl s) (.str _)⟩
    · cases h
def dListOf : List D → Option D
  | [.list xs] => some (.list xs)
  | [.tuple xs] => some (.list xs)
  | _ => none
theorem cl_list : CL T K (fun xs H Q => ∃ p ys, xs = [V.ref p] ∧ (SqL K H p ys ∨ SqT K H p ys) ∧ ∀ l, H l = none → Q (.ref l) (upd H l (.lst ys))) dListOf := by
  intro F H vs ds d s r h Q q
  match ds, h with
  | [.list xs], h =>
    cases h
    obtain ⟨v, rfl, rv⟩ := rp1 r
    cases rv with
    | lst hs ra =>
      refine ⟨_, _, rfl, .inl (s.same.seq hs), fun p hp => ?_⟩
      exact q _ _ _ (Grow.new s hp) (.lst (SqL.of upd_same) (ra.mono (Grow.new (T := T) s hp).f))
  | [.tuple xs], h =>
    cases h
    obtain ⟨v, rfl, rv⟩ := rp1 r
    cases rv with
    | tup hs ra =>
      refine ⟨_, _, rfl, .inr (SqT_same s.same hs), fun p hp => ?_⟩
      exact q _ _ _ (Grow.new s hp) (.lst (SqL.of upd_same) (ra.mono (Grow.new (T := T) s hp).f))
def dTupleOf : List D → Option D
  | [.list xs] => some (.tuple xs)
  | [.tuple xs] => some (.tuple xs)
  | _ => none
theorem cl_tuple : CL T K (fun xs H Q => ∃ p ys, xs = [V.ref p] ∧ ((SqL K H p ys ∧ ∀ l, H l = none → Q (.ref l) (upd H l (.tup ys))) ∨ SqT K H p ys ∧ Q (.ref p) H)) dTupleOf := by
  intro F H vs ds d s r h Q q
  match ds, h with
  | [.list xs], h =>
    cases h
    obtain ⟨v, rfl, rv⟩ := rp1 r
    cases rv with
    | lst hs ra =>
      refine ⟨_, _, rfl, .inl ⟨s.same.seq hs, fun p hp => ?_⟩⟩
      exact q _ _ _ (Grow.new s hp) (.tup (SqT.of upd_same) (ra.mono (Grow.new (T := T) s hp).f))
  | [.tuple xs], h =>
    cases h
    obtain ⟨v, rfl, rv⟩ := rp1 r
    cases rv with
    | tup hs ra => exact ⟨_, _, rfl, .inr ⟨SqT_same s.same hs, q _ F H (Grow.refl s) (.tup hs ra)⟩⟩
/-! ### isinstance -/
def tyD : D → String
  | .none => "NoneType"
  | .bool _ => "bool"
  | .int _ => "int"
  | .str _ => "str"
  | .list _ => "list"
  | .tuple _ => "tuple"
  | .dict _ => "dict"
theorem tyx {H : Hp} {v : V} {d : D} (r : Rp K H v d) : TyX K H v (.type (tyD d)) := by
  cases r with
  | non => exact .base .non
  | bl b => exact .base (.bl b)
  | int i => exact .base (.int i)
  | str x => exact .base (.str x)
  | lst hs _ =>
    rcases hs with (h | ⟨o, h⟩) | ⟨o, its, n, h1, h2, _⟩
    · exact .base (.lst h)
    · exact .base (.frz h)
    · exact .kList h1 h2
  | tup hs _ =>
    rcases hs with (h | ⟨o, h⟩) | ⟨o, its, n, h1, h2, _⟩
    · exact .base (.tup h)
    · exact .fTuple h
    · exact .kTuple h1 h2
  | dct h _ => exact .base (.dK h)
def dIsi (Ty : String) (d : D) : Option D := (kitB (tyD d) Ty).map .bool
theorem xd_isi {e : Expr} {a : M D} {Ty : String} {x : Str} {p p2 pos : Pos} (ha : XD X T K e a) (hm : ∀ i0, (X i0).mg "isinstance" = none) (hmT : ∀ i0, (X i0).mg x = none) (hv : bootBuiltins x = some (.type Ty)) (hn : x ≠ "__name__" := by decide) (hd : (x == ("__debug__" : Str)) = false := by decide)
    (hg : ∀ i0, Gl (X i0) "isinstance" := by intro _; rfl) (hgT : ∀ i0, Gl (X i0) x := by intro _; rfl)
    (h2 : ∀ i0, starEach [.Name x p2] (X i0).env = (false, eval (.Name x p2) (X i0).env) :: starEach [] (X i0).env := by intro _; rfl) (he : ∀ i0, starEach (e :: [.Name x p2]) (X i0).env = (false, eval e (X i0).env) :: starEach [.Name x p2] (X i0).env := by intro _; rfl) (hpl : ∀ i0, (backTo pos (starEach [.Name x p2] (X i0).env)).any (·.1) = false := by intro _; rfl) (k : ∀ i0, (X i0).K = K := by intro _; rfl) :
    XD X T K (.Call (.Name "isinstance" p) [e, .Name x p2] [] pos) (m1 (dIsi Ty) a) := by
  obtain ⟨t, p1, l⟩ := ha
  refine ⟨tCB (rIsi K) (tCons t (tCons (tC (.ty Ty)) tNil)), fun i0 => by have e := k i0; subst e; exact pe_callB call_isi (hg i0) (hm i0) (by decide +kernel) (pa_cons (p1 i0) (pa_cons (pe_bltn (v := .ty Ty) (hgT i0) (hmT i0) hv rfl hn hd) pa_nil (h2 i0)) (he i0)) (by decide) (by decide) (he i0) (hpl i0), ?_⟩
  intro F0 H0 σ F H ρ d S h Q q
  unfold m1 at h
  obtain ⟨y, e1, h⟩ := Option.bind_eq_some_iff.mp h
  unfold dIsi at h
  obtain ⟨b, e2, h⟩ := Option.map_eq_some_iff.mp h
  subst h
  refine l F0 H0 σ F H ρ y S e1 _ fun v F1 H1 g1 r1 => ?_
  exact ⟨v, .ty Ty, _, _, b, rfl, .ty Ty, tyx (r1.mono g1.s.same), kit_ty e2, q _ F1 H1 g1 (.bl b)⟩
/-! ### calls of own defs -/
/-- a def that makes data of data, and changes nothing that stands -/
def spD (T : List (Addr × Str)) (K : PySem.W.Frag) (g : List D → Option D) : Sp := fun vs H Q _ => ∃ (F : Hp) (ds : List D) (d : D), Sub T F H ∧ RpAll K F vs ds ∧ g ds = some d ∧ ∀ v F' H', Grow T F H F' H' → Rp K F' v d → Q v H'
theorem xd_call {j : Nat} {f : Addr} {fd : FuncData} {ps : List Str} {g : List D → Option D} {x : Str} {e : Expr} {es : List Expr} {m : M (List D)} {p pos : Pos} (G : ∀ i0, FnOk (X i0).prog (X i0).w K (X i0).mg (X i0).base CX0 j f fd ps (spD T K g)) (hr : ∀ i0, Room j (X i0).A) (hm : ∀ i0, (X i0).mg x = some (.ref f)) (hk : PySem.W.keepIn K (.ref f) = true) (hb : Binds K fd ps [])
    (ha : XA X T K (e :: es) m) (hg : ∀ i0, Gl (X i0) x := by intro _; rfl) (hdb : (x == ("__debug__" : Str)) = false := by decide) (he : ∀ i0, starEach (e :: es) (X i0).env = (false, eval e (X i0).env) :: starEach es (X i0).env := by intro _; rfl) (hpl : ∀ i0, (backTo pos (starEach es (X i0).env)).any (·.1) = false := by intro _; rfl) (k : ∀ i0, (X i0).K = K := by intro _; rfl) :
    XD X T K (.Call (.Name x p) (e :: es) [] pos) (mA g m) := by
  obtain ⟨t, p1, l⟩ := ha
  refine ⟨tCall (spD T K g) [] E0 t, fun i0 => by have e := k i0; subst e; exact pe_call (G i0) (hr i0) (hg i0) (hm i0) hk hb .nil pass0 (p1 i0) hdb (he i0) (hpl i0), ?_⟩
  intro F0 H0 σ F H ρ d S h Q q
  unfold mA at h
  obtain ⟨xs, e1, h⟩ := Option.bind_eq_some_iff.mp h
  refine l F0 H0 σ F H ρ xs S e1 _ fun vs F1 H1 g1 r1 => ?_
  exact ⟨F1, xs, d, g1.s, by rw [List.append_nil]; exact r1, h, fun v F2 H2 g2 r2 => q v F2 H2 (g1.trans g2) r2⟩
theorem xd_call0 {j : Nat} {f : Addr} {fd : FuncData} {ps : List Str} {g : List D → Option D} {x : Str} {p pos : Pos} (G : ∀ i0, FnOk (X i0).prog (X i0).w K (X i0).mg (X i0).base CX0 j f fd ps (spD T K g)) (hr : ∀ i0, Room j (X i0).A) (hm : ∀ i0, (X i0).mg x = some (.ref f)) (hk : PySem.W.keepIn K (.ref f) = true) (hb : Binds K fd ps [])
    (hg : ∀ i0, Gl (X i0) x := by intro _; rfl) (hdb : (x == ("__debug__" : Str)) = false := by decide) (k : ∀ i0, (X i0).K = K := by intro _; rfl) : XD X T K (.Call (.Name x p) [] [] pos) (mA g mNil) := by
  refine ⟨tCall (spD T K g) [] E0 tNil, fun i0 => by have e := k i0; subst e; exact pe_call0 (G i0) (hr i0) (hg i0) (hm i0) hk hb .nil pass0 hdb, ?_⟩
  intro F0 H0 σ F H ρ d S h Q q
  exact ⟨F, [], d, S.s, .nil, h, fun v F2 H2 g2 r2 => q v F2 H2 g2 r2⟩
/-! ### methods of texts -/
def asStrs : List D → Option (List Str)
  | [] => some []
  | .str x :: r => (asStrs r).map (x :: ·)
  | _ :: _ => none
theorem asStrs_rp {H : Hp} : ∀ {vs : List V} {ds : List D} {xs : List Str}, RpAll K H vs ds → asStrs ds = some xs → vs = xs.map V.str ∧ ds = xs.map PyData.str
  | _, _, _, .nil, h => by cases h; exact ⟨rfl, rfl⟩
  | _, _, _, .cons hv r, h => by
    cases hv <;> simp only [asStrs] at h <;> try (cases h; done)
    obtain ⟨ms, e, h⟩ := Option.map_eq_some_iff.mp h
    subst h
    obtain ⟨e1, e2⟩ := asStrs_rp r e
    subst e1 e2
    exact ⟨rfl, rfl⟩
theorem asStrs_map : ∀ xs : List Str, asStrs (xs.map PyData.str) = some xs
  | [] => rfl
  | b :: bs => by
    show (asStrs (bs.map PyData.str)).map (b :: ·) = _
    rw [asStrs_map bs]; rfl
def dJoin : D → D → Option D
  | .str a, .list xs => (asStrs xs).bind fun ys => if (ys.map (·.length)).sum + ys.length * a.length ≤ 16777216 then some (.str (Txt.join a ys)) else none
  | _, _ => none
theorem xd_join {o e : Expr} {a b : M D} {apos pos : Pos} (ho : XD X T K o a) (he : XD X T K e b) (hs : ∀ i0, starEach [e] (X i0).env = [(false, eval e (X i0).env)] := by intro _; rfl) (hab : ∀ i0, attributeBase o (Str.ofString "join") (X i0).env (eval o (X i0).env) = eval o (X i0).env := by intro _; rfl) (hl : (apos.endLine == pos.line) = true := by rfl) (k : ∀ i0, (X i0).K = K := by intro _; rfl) :
    XD X T K (.Call (.Attribute o (Str.ofString "join") apos) [e] [] pos) (m2 dJoin a b) := by
  obtain ⟨t, p, l⟩ := ho
  obtain ⟨u, p2, l2⟩ := he
  refine ⟨tM1 (fun x xs H Q => ∃ a p, ∃ ys : List Str, x = .str a ∧ xs = [.ref p] ∧ (SqL K H p (ys.map V.str) ∨ SqT K H p (ys.map V.str)) ∧ (ys.map (·.length)).sum + ys.length * a.length ≤ 16777216 ∧ Q (.str (Txt.join a ys)) H) t u, fun i0 => by have e := k i0; subst e; exact pe_join (p i0) (p2 i0) (hs i0) (hab i0) hl, ?_⟩
  intro F0 H0 σ F H ρ d S h Q q
  unfold m2 at h
  obtain ⟨x, e1, h⟩ := Option.bind_eq_some_iff.mp h
  obtain ⟨y, e2, h⟩ := Option.bind_eq_some_iff.mp h
  refine l F0 H0 σ F H ρ x S e1 _ fun v F1 H1 g1 r1 => ?_
  have S1 := S.grow g1
  match x, y, h with
  | .str z, .list xs, h =>
    cases r1
    refine ⟨⟨z, rfl⟩, ?_⟩
    refine l2 F0 H0 σ F1 H1 ρ _ S1 e2 _ fun w F2 H2 g2 r2 => ?_
    simp only [dJoin] at h
    obtain ⟨ys, e3, h⟩ := Option.bind_eq_some_iff.mp h
    split at h
    · rename_i hz
      cases h
      cases r2 with
      | lst hs ra =>
        obtain ⟨e4, _⟩ := asStrs_rp ra e3
        subst e4
        exact ⟨z, _, ys, rfl, rfl, .inl (g2.s.same.seq hs), hz, q _ F2 H2 (g1.trans g2) (.str _)⟩
    · cases h
def dUpper : D → Option D
  | .str a => if a.length ≤ 5592405 then some (.str (Txt.upper a)) else none
  | _ => none
theorem xd_upper {o : Expr} {a : M D} {apos pos : Pos} (ho : XD X T K o a) (hab : ∀ i0, attributeBase o (Str.ofString "upper") (X i0).env (eval o (X i0).env) = eval o (X i0).env := by intro _; rfl) (hl : (apos.endLine == pos.line) = true := by rfl) : XD X T K (.Call (.Attribute o (Str.ofString "upper") apos) [] [] pos) (m1 dUpper a) := by
  obtain ⟨t, p, l⟩ := ho
  refine ⟨_, fun i0 => pe_upper (p i0) (hab i0) hl, ?_⟩
  intro F0 H0 σ F H ρ d S h Q q
  unfold m1 at h
  obtain ⟨x, e1, h⟩ := Option.bind_eq_some_iff.mp h
  refine l F0 H0 σ F H ρ x S e1 _ fun v F1 H1 g1 r1 => ?_
  match x, h with
  | .str z, h =>
    cases r1
    simp only [dUpper] at h
    split at h
    · rename_i hz
      cases h
      exact ⟨⟨z, rfl⟩, z, rfl, rfl, hz, q _ F1 H1 g1 (.str _)⟩
    · cases h
end
end Pd

namespace Pd
open PySem PySem.Spec PyProof.Rows L2
section
variable {ι : Type} {T : List (Addr × Str)} {K : PySem.W.Frag} {X : ι → Cx}
/-! ### expressions that give a new list of one's own hand -/
def FL (T : List (Addr × Str)) (K : PySem.W.Frag) (te : TE) (m : M (List D)) : Prop := ∀ (F0 H0 : Hp) (σ : St) (F H : Hp) (ρ : Fr) (ds : List D), State T K F0 H0 σ F H ρ → m ρ = some ds →
  ∀ Q : VK, (∀ a vs F' H', Grow T F H F' H' → H' a = some (.lst vs) → F' a = Option.none → Fre (H a) → RpAll K F' vs ds → Q (.ref a) H') → te σ H Q
def XF {ι : Type} (X : ι → Cx) (T : List (Addr × Str)) (K : PySem.W.Frag) (e : Expr) (m : M (List D)) : Prop := ∃ t, (∀ i, PE (X i) e t) ∧ FL T K t m
def mL (m : M (List D)) : M D := fun ρ => (m ρ).map .list
theorem keep_new {F H F' H' : Hp} {a : Addr} {o : HO} (g : Grow T F H F' H') (ha : H' a = some o) (hf : F' a = Option.none) (hn : Fre (H a)) (no : noT o := by intro _ z; cases z) : Grow T F H (upd F' a o) H' where
  f := g.f.trans (upd_same_of hf)
  h := g.h
  s := ⟨fun b u e => by
    by_cases hb : b = a
    · subst hb; rw [upd_same] at e; cases e; exact ha
    · rw [upd_ne hb] at e; exact g.s.same _ _ e, fun b ps e => by
    by_cases hb : b = a
    · subst hb; rw [upd_same] at e; exact no ps (Option.some.inj e)
    · rw [upd_ne hb] at e; exact g.s.nt b ps e, g.s.tabs⟩
  n := fun b u e n => by
    by_cases hb : b = a
    · subst hb; exact hn
    · rw [upd_ne hb] at e; exact g.n _ _ e n
theorem FL.el {te : TE} {m : M (List D)} (h : FL T K te m) : EL T K te (mL m) := by
  intro F0 H0 σ F H ρ d S hd Q q
  unfold mL at hd
  obtain ⟨ds, e, hd⟩ := Option.map_eq_some_iff.mp hd
  subst hd
  refine h F0 H0 σ F H ρ ds S e _ fun a vs F' H' g ha hf hn r => ?_
  have s2 : Same F' (upd F' a (.lst vs)) := fun b u e => by rw [upd_ne (ne_of_none e hf)]; exact e
  exact q (.ref a) _ H' (keep_new g ha hf hn) (.lst (SqL.of upd_same) (r.mono s2))
theorem XF.xd {e : Expr} {m : M (List D)} (h : XF X T K e m) : XD X T K e (mL m) := by
  obtain ⟨t, p, l⟩ := h
  exact ⟨t, p, l.el⟩
theorem xf_lst {es : List Expr} {m : M (List D)} {pos : Pos} (ha : XA X T K es m) : XF X T K (.List es pos) (fun ρ => (m ρ).bind fun xs => if xs.length ≤ sizeLine then some xs else none) := by
  obtain ⟨t, p, l⟩ := ha
  refine ⟨_, fun i0 => pe_lst (p i0), ?_⟩
  intro F0 H0 σ F H ρ d S h Q q
  obtain ⟨xs, e1, h⟩ := Option.bind_eq_some_iff.mp h
  refine l F0 H0 σ F H ρ xs S e1 _ fun vs F1 H1 g1 r1 => ?_
  split at h
  · rename_i hz
    cases h
    refine ⟨by rw [r1.length]; exact hz, fun p hp => ?_⟩
    have g2 : Grow T F1 H1 F1 (upd H1 p (.lst vs)) := Grow.mine g1.s hp
    exact q p vs F1 _ (g1.trans g2) upd_same (g1.s.same.free hp) (g1.h.free (.inl hp)) r1
  · cases h
/-- list(x) -/
theorem xf_list {x : Str} {e : Expr} {a : M D} {p pos : Pos} (ha : XD X T K e a) (hm : ∀ i0, (X i0).mg "list" = none) (hg : ∀ i0, Gl (X i0) "list" := by intro _; rfl) (hs : ∀ i0, starEach [e] (X i0).env = (false, eval e (X i0).env) :: starEach [] (X i0).env := by intro _; rfl) (hpl : ∀ i0, (backTo pos (starEach [] (X i0).env)).any (·.1) = false := by intro _; rfl) (k : ∀ i0, (X i0).K = K := by intro _; rfl) :
    XF X T K (.Call (.Name "list" p) [e] [] pos) (fun ρ => (a ρ).bind fun x => match x with | .list xs => some xs | .tuple xs => some xs | _ => none) := by
  obtain ⟨t, p1, l⟩ := ha
  refine ⟨tCB (fun xs H Q => ∃ p ys, xs = [.ref p] ∧ (SqL K H p ys ∨ SqT K H p ys) ∧ ∀ l, H l = none → Q (.ref l) (upd H l (.lst ys))) (tCons t tNil), fun i0 => by have e := k i0; subst e; exact pe_callTy call_list_of (hg i0) (hm i0) (by decide +kernel) (pa_cons (p1 i0) pa_nil (hs i0)) (by decide) (by decide) (hs i0) (hpl i0), ?_⟩
  intro F0 H0 σ F H ρ d S h Q q
  obtain ⟨y, e1, h⟩ := Option.bind_eq_some_iff.mp h
  refine l F0 H0 σ F H ρ y S e1 _ fun v F1 H1 g1 r1 => ?_
  have fin : ∀ (vs : List V) (p : Addr), H1 p = Option.none → RpAll K F1 vs d → Q (.ref p) (upd H1 p (.lst vs)) := fun vs p hp r => by
    have g2 : Grow T F1 H1 F1 (upd H1 p (.lst vs)) := Grow.mine g1.s hp
    exact q p vs F1 _ (g1.trans g2) upd_same (g1.s.same.free hp) (g1.h.free (.inl hp)) r
  split at h
  · cases h
    cases r1 with
    | lst hs r => exact ⟨_, _, rfl, .inl (g1.s.same.seq hs), fun p hp => fin _ p hp r⟩
  · cases h
    cases r1 with
    | tup hs r => exact ⟨_, _, rfl, .inr (SqT_same g1.s.same hs), fun p hp => fin _ p hp r⟩
  · cases h

/-! ### what is walked -/
structure ItOk (T : List (Addr × Str)) (K : PySem.W.Frag) (J : It) (F : Hp) (xs : List D) : Prop where
  go : ∀ i H, Same F H → i < xs.length → J.go i H
  stop : ∀ i H, Same F H → xs.length ≤ i → J.stop i H
  yld : ∀ i d F1 H1 x H2, Same F F1 → Sub T F1 H1 → xs[i]? = some d → J.yld i H1 x H2 → ∃ F2, Grow T F1 H1 F2 H2 ∧ Rp K F2 x d
def IL (T : List (Addr × Str)) (K : PySem.W.Frag) (wi : TI) (m : M (List D)) : Prop := ∀ (F0 H0 : Hp) (σ : St) (F H : Hp) (ρ : Fr) (xs : List D), State T K F0 H0 σ F H ρ → m ρ = some xs →
  ∀ R : It → Hp → Prop, (∀ J F' H', Grow T F H F' H' → ItOk T K J F' xs → R J H') → wi σ H R
def XI {ι : Type} (X : ι → Cx) (T : List (Addr × Str)) (K : PySem.W.Frag) (tg iter : Expr) (m : M (List D)) : Prop := ∃ wi, (∀ i, PI (X i) tg iter wi) ∧ IL T K wi m
/-- over a list, over a tuple -/
def mItL (a : M D) : M (List D) := fun ρ => (a ρ).bind fun x => match x with | .list xs => some xs | _ => none
def mItT (a : M D) : M (List D) := fun ρ => (a ρ).bind fun x => match x with | .tuple xs => some xs | _ => none
theorem rp_at {H : Hp} {vs : List V} {ds : List D} {i : Nat} {v : V} {d : D} (r : RpAll K H vs ds) (h1 : vs[i]? = some v) (h2 : ds[i]? = some d) : Rp K H v d := by
  obtain ⟨d', e, r'⟩ := r.get h1
  rw [h2] at e; cases e
  exact r'
theorem some_at {α : Type} {xs : List α} {i : Nat} (h : i < xs.length) : ∃ x, xs[i]? = some x := ⟨xs[i], by simp [h]⟩
theorem xi_list {tg e : Expr} {a : M D} (ha : XD X T K e a) (k : ∀ i0, (X i0).K = K := by intro _; rfl) : XI X T K tg e (mItL a) := by
  obtain ⟨t, p, l⟩ := ha
  refine ⟨iList K t, fun i0 => by have e := k i0; subst e; exact pi_list (p i0), ?_⟩
  intro F0 H0 σ F H ρ xs S h R q
  unfold mItL at h
  obtain ⟨y, e1, h⟩ := Option.bind_eq_some_iff.mp h
  refine l F0 H0 σ F H ρ y S e1 _ fun v F1 H1 g1 r1 => ?_
  split at h
  · cases h
    cases r1 with
    | lst hs r =>
      rename_i a vs
      refine ⟨a, rfl, ⟨vs, g1.s.same.seq hs⟩, q _ F1 H1 g1 ⟨fun i H' s hi => ?_, fun i H' s hi => ⟨vs, s.seq hs, by rw [r.length]; exact hi⟩, fun i d F2 H2 x H3 s1 s2 hd hy => ?_⟩⟩
      · obtain ⟨x, hx⟩ := some_at (xs := vs) (i := i) (by rw [r.length]; exact hi)
        exact ⟨vs, x, s.seq hs, hx⟩
      · obtain ⟨e, hy⟩ := hy
        subst e
        exact ⟨F2, Grow.refl s2, (rp_at r (hy vs (s2.same.seq (s1.seq hs))) hd).mono s1⟩
  · cases h
theorem xi_tup {tg e : Expr} {a : M D} (ha : XD X T K e a) (k : ∀ i0, (X i0).K = K := by intro _; rfl) : XI X T K tg e (mItT a) := by
  obtain ⟨t, p, l⟩ := ha
  refine ⟨iTup K t, fun i0 => by have e := k i0; subst e; exact pi_tup (p i0), ?_⟩
  intro F0 H0 σ F H ρ xs S h R q
  unfold mItT at h
  obtain ⟨y, e1, h⟩ := Option.bind_eq_some_iff.mp h
  refine l F0 H0 σ F H ρ y S e1 _ fun v F1 H1 g1 r1 => ?_
  split at h
  · cases h
    cases r1 with
    | tup hs r =>
      rename_i a vs
      refine ⟨a, rfl, ⟨vs, SqT_same g1.s.same hs⟩, q _ F1 H1 g1 ⟨fun i H' s hi => ?_, fun i H' s hi => ⟨vs, SqT_same s hs, by rw [r.length]; exact hi⟩, fun i d F2 H2 x H3 s1 s2 hd hy => ?_⟩⟩
      · obtain ⟨x, hx⟩ := some_at (xs := vs) (i := i) (by rw [r.length]; exact hi)
        exact ⟨vs, x, SqT_same s hs, hx⟩
      · obtain ⟨e, hy⟩ := hy
        subst e
        exact ⟨F2, Grow.refl s2, (rp_at r (hy vs (SqT_same s2.same (SqT_same s1 hs))) hd).mono s1⟩
  · cases h
def rngD (lo hi : Int) : List D := (List.range (hi - lo).toNat).map fun (i : Nat) => PyData.int (lo + (i : Int))
theorem rngD_len (lo hi : Int) : (rngD lo hi).length = (hi - lo).toNat := by unfold rngD; simp
theorem rngD_at {lo hi : Int} {i : Nat} {d : D} (h : (rngD lo hi)[i]? = some d) : d = .int (lo + i) := by
  unfold rngD at h
  rw [List.getElem?_map] at h
  cases e : (List.range (hi - lo).toNat)[i]? with
  | none => rw [e] at h; cases h
  | some j =>
    rw [e] at h
    have : j = i := by
      obtain ⟨h1, h2⟩ := List.getElem?_eq_some_iff.mp e
      simpa using h2.symm
    subst this
    cases h; rfl
theorem itr_ok {F : Hp} {lo : Int} {n : Nat} {xs : List D} (hl : xs.length = n) (hx : ∀ (i : Nat) (d : D), xs[i]? = some d → d = PyData.int (lo + ((i : Nat) : Int))) : ItOk T K (Itr lo n) F xs :=
  ⟨fun i H s hi => by show i < n; omega, fun i H s hi => by show n ≤ i; omega, fun i d F1 H1 x H2 s1 s2 hd hy => by
    obtain ⟨e, ey⟩ := hy
    subst e ey
    rw [hx i d hd]
    exact ⟨F1, Grow.refl s2, .int _⟩⟩
def okR (i : Int) : Bool := decide (-(2 ^ 62) ≤ i) && decide (i < 2 ^ 62)
theorem okR_iff {i : Int} : okR i = true ↔ -(2 ^ 62) ≤ i ∧ i < 2 ^ 62 := by unfold okR; rw [Bool.and_eq_true, decide_eq_true_iff, decide_eq_true_iff]
def mRng1 (a : M D) : M (List D) := fun ρ => (a ρ).bind fun x => match x with | .int j => if okR j then some (rngD 0 j) else none | _ => none
def mRng2 (a b : M D) : M (List D) := fun ρ => (a ρ).bind fun x => (b ρ).bind fun y => match x, y with | .int i, .int j => if okR i && okR j then some (rngD i j) else none | _, _ => none
theorem xi_rng1 {tg a : Expr} {ma : M D} {p pos : Pos} (ha : XD X T K a ma) (hm : ∀ i0, (X i0).mg "range" = none) (hg : ∀ i0, Gl (X i0) "range" := by intro _; rfl) (hs : ∀ i0, starEach [a] (X i0).env = [(false, eval a (X i0).env)] := by intro _; rfl) : XI X T K tg (.Call (.Name "range" p) [a] [] pos) (mRng1 ma) := by
  obtain ⟨t, p1, l⟩ := ha
  refine ⟨_, fun i0 => pi_range1 (hg i0) (hm i0) (pa_cons (p1 i0) pa_nil (hs i0)) (hs i0), ?_⟩
  intro F0 H0 σ F H ρ xs S h R q
  unfold mRng1 at h
  obtain ⟨y, e1, h⟩ := Option.bind_eq_some_iff.mp h
  refine l F0 H0 σ F H ρ y S e1 _ fun v F1 H1 g1 r1 => ?_
  split at h
  · rename_i j
    split at h
    · rename_i hz
      rw [okR_iff] at hz
      cases h
      cases r1
      exact ⟨j, rfl, hz.1, hz.2, q _ F1 H1 g1 (itr_ok (by rw [rngD_len]; congr 1; omega) fun i d e => rngD_at e)⟩
    · cases h
  · cases h
theorem xi_rng2 {tg a b : Expr} {ma mb : M D} {p pos : Pos} (ha : XD X T K a ma) (hb : XD X T K b mb) (hm : ∀ i0, (X i0).mg "range" = none) (hg : ∀ i0, Gl (X i0) "range" := by intro _; rfl) (hs : ∀ i0, starEach [a, b] (X i0).env = [(false, eval a (X i0).env), (false, eval b (X i0).env)] := by intro _; rfl) (hs2 : ∀ i0, starEach [b] (X i0).env = [(false, eval b (X i0).env)] := by intro _; rfl) : XI X T K tg (.Call (.Name "range" p) [a, b] [] pos) (mRng2 ma mb) := by
  obtain ⟨t, p1, l⟩ := ha
  obtain ⟨t2, p2, l2⟩ := hb
  refine ⟨_, fun i0 => pi_range2 (hg i0) (hm i0) (pa_cons (p1 i0) (pa_cons (p2 i0) pa_nil (hs2 i0)) (by rw [hs i0, hs2 i0])) (hs i0) (hs2 i0), ?_⟩
  intro F0 H0 σ F H ρ xs S h R q
  unfold mRng2 at h
  obtain ⟨x, e1, h⟩ := Option.bind_eq_some_iff.mp h
  obtain ⟨y, e2, h⟩ := Option.bind_eq_some_iff.mp h
  refine l F0 H0 σ F H ρ x S e1 _ fun v F1 H1 g1 r1 => ?_
  refine l2 F0 H0 σ F1 H1 ρ y (S.grow g1) e2 _ fun u F2 H2 g2 r2 => ?_
  match x, y, r1, r2, h with
  | .int i, .int j, r1, r2, h =>
    simp only at h
    split at h
    · rename_i hz
      rw [Bool.and_eq_true, okR_iff, okR_iff] at hz
      cases h
      cases r1
      cases r2
      exact ⟨i, j, rfl, ⟨hz.1.1, hz.1.2, hz.2.1, hz.2.2⟩, q _ F2 H2 (g1.trans g2) (itr_ok (by rw [rngD_len]) fun i d e => rngD_at e)⟩
    · cases h

/-! ### targets -/
/-- a target: the slots it writes, what it makes of a frame -/
def GL (T : List (Addr × Str)) (K : PySem.W.Frag) (tg : TG) (is : List Nat) (g : D → Fr → Option Fr) : Prop := ∀ (F0 H0 : Hp) (σ : St) (F H : Hp) (ρ : Fr) (v : V) (d : D) (ρ' : Fr), State T K F0 H0 σ F H ρ → Rp K F v d → g d ρ = some ρ' →
  ∀ Q : St → Hp → Prop, (∀ σ', State T K F0 H0 σ' F H ρ' → (∀ vs : List Nat, (∀ i ∈ is, i ∈ vs) → wipe σ' vs = wipe σ vs) → Q σ' H) → tg v σ H Q
def XG {ι : Type} (X : ι → Cx) (T : List (Addr × Str)) (K : PySem.W.Frag) (e : Expr) (is : List Nat) (g : D → Fr → Option Fr) : Prop := ∃ t, (∀ i, PG (X i) e t) ∧ GL T K t is g
theorem State.set {F0 H0 F H : Hp} {σ : St} {ρ : Fr} {i : Nat} {v : V} {d : D} (S : State T K F0 H0 σ F H ρ) (r : Rp K F v d) (hi : i < ρ.length) : State T K F0 H0 (σ.set i (some v)) F H (ρ.set i (.va d)) where
  g := S.g
  ln := by rw [List.length_set, List.length_set]; exact S.ln
  va := fun j e h => by
    by_cases hj : i = j
    · subst hj
      rw [List.getElem?_set_self hi] at h
      cases h
      exact ⟨v, List.getElem?_set_self (by rw [← S.ln]; exact hi), r⟩
    · rw [List.getElem?_set_ne hj] at h ⊢
      exact S.va j e h
  ow := fun j ds h => by
    by_cases hj : i = j
    · subst hj
      rw [List.getElem?_set_self hi] at h
      cases h
    · rw [List.getElem?_set_ne hj] at h ⊢
      exact S.ow j ds h
  dj := fun j k ds es a b h1 h2 h3 h4 => by
    by_cases hj : i = j
    · subst hj
      rw [List.getElem?_set_self hi] at h1
      cases h1
    · by_cases hk : i = k
      · subst hk
        rw [List.getElem?_set_self hi] at h2
        cases h2
      · rw [List.getElem?_set_ne hj] at h1 h3
        rw [List.getElem?_set_ne hk] at h2 h4
        exact S.dj j k ds es a b h1 h2 h3 h4
  raw := fun j a h => by
    by_cases hj : i = j
    · subst hj
      rw [List.getElem?_set_self hi] at h
      cases h
    · rw [List.getElem?_set_ne hj] at h ⊢
      exact S.raw j a h
theorem wipe_set {σ : St} {i : Nat} {o : Option V} : ∀ {vs : List Nat}, i ∈ vs → wipe (σ.set i o) vs = wipe σ vs
  | [], h => by cases h
  | v :: vs, h => by
    unfold wipe
    by_cases hv : i ∈ vs
    · rw [wipe_set hv]
    · have e : i = v := by
        rcases List.mem_cons.mp h with h | h
        · exact h
        · exact absurd h hv
      subst e
      have q : ∀ (l : List Nat), i ∉ l → wipe (σ.set i o) l = (wipe σ l).set i o := by
        intro l
        induction l with
        | nil => intro _; rfl
        | cons w l ih =>
          intro hl
          rw [List.mem_cons, not_or] at hl
          unfold wipe
          rw [ih hl.2, List.set_comm _ _ hl.1]
      rw [q vs hv, List.set_set]
def gSet (i : Nat) : D → Fr → Option Fr := fun d ρ => if i < ρ.length then some (ρ.set i (.va d)) else none
theorem xg_name (i : Nat) {x : Str} {pos : Pos} (hN : ∀ i0, (X i0).N.Nodup) (hi : ∀ i0, (X i0).N[i]? = some x := by intro _; rfl) (hx : ∀ i0, Loc (X i0).env.scope x := by intro _; first | exact Or.inl rfl | exact Or.inr rfl) (hf : ∀ i0, (X i0).fn x = true ∨ (X i0).env.scope.names.lookup x = some .local := by intro _; first | exact .inl rfl | exact .inr rfl) : XG X T K (.Name x pos) [i] (gSet i) := by
  refine ⟨_, fun i0 => pg_name (hN i0) (hi i0) (hx i0) (hf i0), ?_⟩
  intro F0 H0 σ F H ρ v d ρ' S r h Q q
  unfold gSet at h
  split at h
  · rename_i hl
    cases h
    exact q _ (S.set r hl) fun vs hvs => wipe_set (hvs i List.mem_cons_self)
  · cases h
def GsL (T : List (Addr × Str)) (K : PySem.W.Frag) (tg : TGs) (is : List Nat) (g : List D → Fr → Option Fr) : Prop := ∀ (F0 H0 : Hp) (σ : St) (F H : Hp) (ρ : Fr) (vs : List V) (ds : List D) (ρ' : Fr), State T K F0 H0 σ F H ρ → RpAll K F vs ds → g ds ρ = some ρ' →
  ∀ Q : St → Hp → Prop, (∀ σ', State T K F0 H0 σ' F H ρ' → (∀ vs : List Nat, (∀ i ∈ is, i ∈ vs) → wipe σ' vs = wipe σ vs) → Q σ' H) → tg vs σ H Q
def XGs {ι : Type} (X : ι → Cx) (T : List (Addr × Str)) (K : PySem.W.Frag) (es : List Expr) (is : List Nat) (g : List D → Fr → Option Fr) : Prop := ∃ t, (∀ i, PGs (X i) es t) ∧ GsL T K t is g
def gsNil : List D → Fr → Option Fr
  | [], ρ => some ρ
  | _, _ => none
def gsCons (g : D → Fr → Option Fr) (r : List D → Fr → Option Fr) : List D → Fr → Option Fr
  | d :: ds, ρ => (g d ρ).bind (r ds)
  | [], _ => none
theorem xgs_nil : XGs X T K [] [] gsNil := by
  refine ⟨_, fun i0 => pgs_nil, ?_⟩
  intro F0 H0 σ F H ρ vs ds ρ' S r h Q q
  cases r with
  | nil =>
    cases h
    exact ⟨rfl, q σ S fun _ _ => rfl⟩
  | cons _ _ => cases h
end
end Pd

namespace Pd
open PySem PySem.Spec PyProof.Rows L2
/-- what is wished of a state in which a class of that name is raised -/
abbrev WN := Str → L2.St → Hp → Prop
section
variable {ι : Type} {T : List (Addr × Str)} {K : PySem.W.Frag} {W : WN} {X : ι → Cx}
theorem xgs_cons {e : Expr} {es : List Expr} {is js : List Nat} {g : D → Fr → Option Fr} {r : List D → Fr → Option Fr} (h1 : XG X T K e is g) (h2 : XGs X T K es js r)
    (hs : ∀ i0, (assignEach (e :: es) (X i0).env).map (·.2) = assign e (X i0).env :: (assignEach es (X i0).env).map (·.2) := by intro _; rfl) : XGs X T K (e :: es) (is ++ js) (gsCons g r) := by
  obtain ⟨t, p, l⟩ := h1
  obtain ⟨u, p2, l2⟩ := h2
  refine ⟨_, fun i0 => pgs_cons (p i0) (p2 i0) (hs i0), ?_⟩
  intro F0 H0 σ F H ρ vs ds ρ' S r h Q q
  cases r with
  | nil => cases h
  | cons rv rr =>
    obtain ⟨ρ1, e1, h⟩ := Option.bind_eq_some_iff.mp h
    refine ⟨_, _, rfl, ?_⟩
    refine l F0 H0 σ F H ρ _ _ ρ1 S rv e1 _ fun σ1 S1 w1 => ?_
    refine l2 F0 H0 σ1 F H ρ1 _ _ ρ' S1 rr h _ fun σ2 S2 w2 => ?_
    exact q σ2 S2 fun vs hvs => (w2 vs fun i hi => hvs i (List.mem_append_right _ hi)).trans (w1 vs fun i hi => hvs i (List.mem_append_left _ hi))
def gTupD (n : Nat) (g : List D → Fr → Option Fr) : D → Fr → Option Fr := fun d ρ => match d with
  | .tuple xs => if xs.length = n then g xs ρ else none
  | _ => none
theorem xg_tup {es : List Expr} {is : List Nat} {g : List D → Fr → Option Fr} {n kk : Nat} {pos : Pos} (hc : ∀ i0, (X i0).calm = true) (h : XGs X T K es is g) (hn : ∀ i0, (assignEach es (X i0).env).length = n := by intro _; rfl) (hst : ∀ i0, (assignEach es (X i0).env).findIdx? (·.1) = none := by intro _; rfl) (k : ∀ i0, (X i0).K = K := by intro _; rfl) : XG X T K (.Tuple es kk pos) is (gTupD n g) := by
  obtain ⟨t, p, l⟩ := h
  refine ⟨gTup K n t, fun i0 => by have e := k i0; subst e; exact pg_tup (hc i0) (p i0) (hn i0) (hst i0), ?_⟩
  intro F0 H0 σ F H ρ v d ρ' S r h Q q
  unfold gTupD at h
  split at h
  · split at h
    · rename_i hz
      cases r with
      | tup hs ra =>
        refine ⟨_, _, rfl, SqT_same S.s.same hs, by rw [ra.length]; exact hz, ?_⟩
        exact l F0 H0 σ F H ρ _ _ ρ' S ra h Q q
    · cases h
  · cases h

/-! ### comprehensions -/
def wipeF (ρ : Fr) : List Nat → Fr
  | [] => ρ
  | v :: vs => (wipeF ρ vs).set v .no
theorem State.unset {F0 H0 F H : Hp} {σ : St} {ρ : Fr} {i : Nat} {o : Option V} (S : State T K F0 H0 σ F H ρ) : State T K F0 H0 (σ.set i o) F H (ρ.set i .no) where
  g := S.g
  ln := by rw [List.length_set, List.length_set]; exact S.ln
  va := fun j e h => by
    by_cases hj : i = j
    · subst hj
      by_cases hl : i < ρ.length
      · rw [List.getElem?_set_self hl] at h
        cases h
      · rw [List.getElem?_eq_none (by rw [List.length_set]; omega)] at h
        cases h
    · rw [List.getElem?_set_ne hj] at h ⊢
      exact S.va j e h
  ow := fun j ds h => by
    by_cases hj : i = j
    · subst hj
      by_cases hl : i < ρ.length
      · rw [List.getElem?_set_self hl] at h
        cases h
      · rw [List.getElem?_eq_none (by rw [List.length_set]; omega)] at h
        cases h
    · rw [List.getElem?_set_ne hj] at h ⊢
      exact S.ow j ds h
  dj := fun j k ds es a b h1 h2 h3 h4 => by
    by_cases hj : i = j
    · subst hj
      by_cases hl : i < ρ.length
      · rw [List.getElem?_set_self hl] at h1
        cases h1
      · rw [List.getElem?_eq_none (by rw [List.length_set]; omega)] at h1
        cases h1
    · by_cases hk : i = k
      · subst hk
        by_cases hl : i < ρ.length
        · rw [List.getElem?_set_self hl] at h2
          cases h2
        · rw [List.getElem?_eq_none (by rw [List.length_set]; omega)] at h2
          cases h2
      · rw [List.getElem?_set_ne hj] at h1 h3
        rw [List.getElem?_set_ne hk] at h2 h4
        exact S.dj j k ds es a b h1 h2 h3 h4
  raw := fun j a h => by
    by_cases hj : i = j
    · subst hj
      by_cases hl : i < ρ.length
      · rw [List.getElem?_set_self hl] at h
        cases h
      · rw [List.getElem?_eq_none (by rw [List.length_set]; omega)] at h
        cases h
    · rw [List.getElem?_set_ne hj] at h ⊢
      exact S.raw j a h
theorem State.wipe {F0 H0 F H : Hp} {σ : St} {ρ : Fr} (S : State T K F0 H0 σ F H ρ) : ∀ vs : List Nat, State T K F0 H0 (L2.wipe σ vs) F H (wipeF ρ vs)
  | [] => S
  | _ :: vs => (S.wipe vs).unset
/-- the tests of a comprehension's clause -/
def XTs {ι : Type} (X : ι → Cx) (T : List (Addr × Str)) (K : PySem.W.Frag) (ifs : List Expr) (m : M Bool) : Prop := ∃ t, (∀ i, PTs (X i) ifs t) ∧ TL T K t m
def mYes : M Bool := fun _ => some true
theorem xts_nil : XTs X T K [] mYes := ⟨_, fun i0 => pts_nil, by
  intro F0 H0 σ F H ρ b S h Q q
  cases h
  exact q F H (Grow.refl S.s)⟩
theorem xts_one {e : Expr} {m : M Bool} (h : XT X T K e m) : XTs X T K [e] m := by
  obtain ⟨t, p, l⟩ := h
  exact ⟨_, fun i0 => pts_one (p i0), l⟩
def compL (f : D → Option (Option D)) : List D → Option (List D)
  | [] => some []
  | x :: xs => (f x).bind fun o => (compL f xs).bind fun r => some (o.toList ++ r)
def turnD (g : D → Fr → Option Fr) (mt : M Bool) (me : M D) (ρ : Fr) (x : D) : Option (Option D) := (g x ρ).bind fun ρ2 => (mt ρ2).bind fun b => if b = true then (me ρ2).map some else some none
def mLc (mi : M (List D)) (vs : List Nat) (g : D → Fr → Option Fr) (mt : M Bool) (me : M D) : M (List D) := fun ρ => (mi ρ).bind fun xs => if xs.length ≤ sizeLine then compL (turnD g mt me (wipeF ρ vs)) xs else none
theorem compL_snoc {f : D → Option (Option D)} : ∀ {xs : List D} {x : D} {r : List D}, compL f (xs ++ [x]) = some r → ∃ r1 o, compL f xs = some r1 ∧ f x = some o ∧ r = r1 ++ o.toList
  | [], x, r, h => by
    obtain ⟨o, e1, h⟩ := Option.bind_eq_some_iff.mp (show (f x).bind _ = some r from h)
    simp only [compL, Option.bind_some, Option.some.injEq] at h
    subst h
    exact ⟨[], o, rfl, e1, by simp⟩
  | y :: ys, x, r, h => by
    obtain ⟨o, e1, h⟩ := Option.bind_eq_some_iff.mp (show (f y).bind _ = some r from h)
    obtain ⟨r1, e2, h⟩ := Option.bind_eq_some_iff.mp h
    obtain ⟨r2, o2, e3, e4, e5⟩ := compL_snoc e2
    cases h
    subst e5
    exact ⟨o.toList ++ r2, o2, by simp only [compL, e1, e3, Option.bind_some], e4, by simp⟩
theorem compL_take {f : D → Option (Option D)} : ∀ {xs : List D} {r : List D} (n : Nat), compL f xs = some r → ∃ r1, compL f (xs.take n) = some r1
  | _, _, 0, _ => ⟨[], rfl⟩
  | [], _, n + 1, _ => ⟨[], rfl⟩
  | x :: xs, r, n + 1, h => by
    obtain ⟨o, e1, h⟩ := Option.bind_eq_some_iff.mp (show (f x).bind _ = some r from h)
    obtain ⟨r1, e2, h⟩ := Option.bind_eq_some_iff.mp h
    obtain ⟨r2, e3⟩ := compL_take n e2
    exact ⟨o.toList ++ r2, by simp only [List.take_succ_cons, compL, e1, e3, Option.bind_some]⟩
theorem compL_len {f : D → Option (Option D)} : ∀ {xs : List D} {r : List D}, compL f xs = some r → r.length ≤ xs.length
  | [], r, h => by cases h; exact Nat.le_refl _
  | x :: xs, r, h => by
    obtain ⟨o, e1, h⟩ := Option.bind_eq_some_iff.mp (show (f x).bind _ = some r from h)
    obtain ⟨r1, e2, h⟩ := Option.bind_eq_some_iff.mp h
    cases h
    have := compL_len e2
    cases o <;> simp <;> omega
theorem take_snoc {α : Type} : ∀ {l : List α} {i : Nat} {x : α}, l[i]? = some x → l.take (i + 1) = l.take i ++ [x]
  | [], i, x, h => by simp at h
  | a :: l, 0, x, h => by
    have e : a = x := Option.some.inj h
    subst e
    rfl
  | a :: l, i + 1, x, h => by
    have ih := take_snoc (l := l) (i := i) (x := x) h
    show a :: l.take (i + 1) = a :: l.take i ++ [x]
    rw [ih]
    rfl
theorem wipe_wipeX {σ : St} {vs : List Nat} : L2.wipe (L2.wipe σ vs) vs = L2.wipe σ vs := by
  have key : ∀ (l : List Nat) (τ : St), (∀ i ∈ l, ∀ j : Nat, j < τ.length → j = i → τ[j]? = some Option.none) → L2.wipe τ l = τ := by
    intro l
    induction l with
    | nil => intro τ _; rfl
    | cons i l ih =>
      intro τ h
      unfold L2.wipe
      rw [ih τ fun j hj => h j (List.mem_cons_of_mem _ hj)]
      apply List.ext_getElem?
      intro k
      by_cases hk : i = k
      · subst hk
        by_cases hl : i < τ.length
        · rw [List.getElem?_set_self hl, h i List.mem_cons_self i hl rfl]
        · rw [List.getElem?_eq_none (by rw [List.length_set]; omega), List.getElem?_eq_none (by omega)]
      · rw [List.getElem?_set_ne hk]
  refine key vs _ fun i hi j hj e => ?_
  subst e
  cases q : (L2.wipe σ vs)[j]? with
  | none => rw [List.getElem?_eq_none_iff] at q; omega
  | some o =>
    cases o with
    | none => rfl
    | some x => exact absurd hi (wipe_some q).2
theorem fl_lc {wi : TI} {mi : M (List D)} {tg : TG} {is vs : List Nat} {g : D → Fr → Option Fr} {tt : TT} {mt : M Bool} {te : TE} {me : M D} (hi : IL T K wi mi) (hg : GL T K tg is g) (ht : TL T K tt mt) (he : EL T K te me) (hv : ∀ i ∈ is, i ∈ vs) :
    FL T K (tLc wi tg tt te vs) (mLc mi vs g mt me) := by
  intro F0 H0 σ F H ρ ds S h Q q
  unfold mLc at h
  obtain ⟨xs, e1, h⟩ := Option.bind_eq_some_iff.mp h
  split at h
  · rename_i hz
    refine hi F0 H0 σ F H ρ xs S e1 _ fun J F1 H1 g1 J1 => ?_
    intro Dd hD
    refine ⟨fun i m H2 => m = xs.length - i ∧ i ≤ xs.length ∧ ∃ F2 us r, Grow T F1 H1 F2 H2 ∧ H2 Dd = some (.lst us) ∧ F2 Dd = Option.none ∧ compL (turnD g mt me (wipeF ρ vs)) (xs.take i) = some r ∧ RpAll K F2 us r,
      ⟨xs.length, by simp, Nat.zero_le _, F1, [], [], Grow.mine g1.s hD, upd_same, g1.s.same.free hD, rfl, .nil⟩, ?_⟩
    rintro i m H2 ⟨rfl, hil, F2, us, r, g2, hDl, hDf, hc, hr⟩
    by_cases hlt : i < xs.length
    · obtain ⟨d, hd⟩ := some_at hlt
      have ht1 := take_snoc hd
      obtain ⟨rr, hrr⟩ := compL_take (i + 1) h
      rw [ht1] at hrr
      obtain ⟨r1, o, hc1, hfo, hro⟩ := compL_snoc hrr
      rw [hc] at hc1
      cases hc1
      have hul : us.length < sizeLine := by
        have h1 := compL_len hc
        have h2 := hr.length
        rw [List.length_take] at h1
        omega
      refine .inr ⟨J1.go i H2 (g2.f.trans g2.s.same) hlt, fun H3 => ∃ F3 us', Grow T F1 H1 F3 H3 ∧ H3 Dd = some (.lst us') ∧ F3 Dd = Option.none ∧ RpAll K F3 us' rr, ?_, ?_⟩
      · rintro H3 ⟨F3, us', g3, a1, a2, a3⟩
        exact ⟨xs.length - (i + 1), by omega, rfl, hlt, F3, us', rr, g3, a1, a2, by rw [ht1]; exact hrr, a3⟩
      · intro x H3 hy
        obtain ⟨F3, g3, rx⟩ := J1.yld i d F2 H2 x H3 g2.f g2.s hd hy
        have g23 := g2.trans g3
        have S3 : State T K F0 H0 (L2.wipe σ vs) F3 H3 (wipeF ρ vs) := ((S.wipe vs).grow g1).grow g23
        unfold turnD at hfo
        obtain ⟨ρ2, e2, hfo⟩ := Option.bind_eq_some_iff.mp hfo
        obtain ⟨b, e3, hfo⟩ := Option.bind_eq_some_iff.mp hfo
        have dIn : ∀ {F' H' : Hp}, Grow T F3 H3 F' H' → H' Dd = some (.lst us) ∧ F' Dd = Option.none := fun {F' H'} g' => by
          have h3 : H3 Dd = some (.lst us) := g3.h.lst hDl
          have f3 : F3 Dd = Option.none := by
            cases q : F3 Dd with
            | none => rfl
            | some u => have z := g3.n Dd u q hDf; rw [hDl] at z; exact z.lst
          refine ⟨g'.h.lst h3, ?_⟩
          cases q : F' Dd with
          | none => rfl
          | some u => have z := g'.n Dd u q f3; rw [h3] at z; exact z.lst
        refine hg F0 H0 _ F3 H3 _ x d ρ2 S3 rx e2 _ fun σ4 S4 w4 => ?_
        refine ⟨by rw [w4 vs hv]; exact wipe_wipeX, ?_⟩
        refine ht F0 H0 σ4 F3 H3 ρ2 b S4 e3 _ fun F5 H5 g5 => ?_
        cases b with
        | true =>
          rw [if_pos rfl] at hfo ⊢
          obtain ⟨y, e6, e7⟩ := Option.map_eq_some_iff.mp hfo
          subst e7
          refine he F0 H0 σ4 F5 H5 ρ2 y (S4.grow g5) e6 _ fun v F6 H6 g6 r6 => ?_
          obtain ⟨a1, a2⟩ := dIn (g5.trans g6)
          have g16 := (g23.trans g5).trans g6
          have hDn : H1 Dd = Option.none := hD
          refine ⟨us, a1, hul, F6, us ++ [v], ⟨g16.f, g16.h.put (.inl hDn) a1, ⟨fun b u e => by rw [upd_ne (ne_of_none e a2)]; exact g16.s.same _ _ e, g16.s.nt, Tabs_put a1 g16.s.tabs⟩, g16.n⟩, upd_same, a2, ?_⟩
          rw [hro]
          exact ((hr.mono g3.f).mono (g5.f.trans g6.f)).append (.cons r6 .nil)
        | false =>
          rw [if_neg Bool.false_ne_true] at hfo ⊢
          cases hfo
          obtain ⟨a1, a2⟩ := dIn g5
          refine ⟨F5, us, g23.trans g5, a1, a2, ?_⟩
          rw [hro]
          simp only [Option.toList_none, List.append_nil]
          exact (hr.mono g3.f).mono g5.f
    · have e : i = xs.length := by omega
      subst e
      rw [List.take_length, h] at hc
      cases hc
      exact .inl ⟨J1.stop _ H2 (g2.f.trans g2.s.same) (Nat.le_refl _), q Dd us F2 H2 (g1.trans g2) hDl hDf (g1.h.free (.inl hD)) hr⟩
  · cases h
/-- the contexts of a comprehension's block -/
abbrev Blk := Shared × Hp × Addr × List (Str × Addr) × List Addr
abbrev bx {ι : Type} (X : ι → Cx) (scope : Scope) : ι × Blk → Cx := fun p => (X p.1).blk p.2.1 p.2.2.1 scope (compEnvC scope p.2.2.2.2.1 p.2.2.2.1 (X p.1).env) p.2.2.2.2.2
/-- [elt for target in iter if ..] -/
theorem xf_lc {elt tgt iter : Expr} {ifs : List Expr} {scope : Scope} {own : List (Str × Nat)} {pos : Pos} {mi : M (List D)} {is : List Nat} {g : D → Fr → Option Fr} {mt : M Bool} {me : M D} (hN : ∀ i0, (X i0).N.Nodup) (ok : ∀ i0, BlkOk (X i0).N (X i0).env.scope scope own) (hi : XI X T K tgt iter mi)
    (hg : XG (bx X scope) T K tgt is g) (ht : XTs (bx X scope) T K ifs mt) (he : XD (bx X scope) T K elt me)
    (hc : ∀ i0, (X i0).calm = true := by intro _; rfl) (hv : ∀ i ∈ is, i ∈ own.map (·.2) := by decide) (hs : ∀ i0, ∀ x, foldedSetIterable iter (X i0).env x = pure x := by intro _ _; rfl) : XF X T K (.ListComp elt [⟨tgt, iter, ifs, 0⟩] scope pos) (mLc mi (own.map (·.2)) g mt me) := by
  obtain ⟨wi, p1, l1⟩ := hi
  obtain ⟨tg, p2, l2⟩ := hg
  obtain ⟨tt, p3, l3⟩ := ht
  obtain ⟨te, p4, l4⟩ := he
  exact ⟨_, fun i0 => pe_lc (hc i0) (hN i0) (p1 i0) (ok i0) (fun s H C cl fp => p2 (i0, s, H, C, cl, fp)) (fun s H C cl fp => p3 (i0, s, H, C, cl, fp)) (fun s H C cl fp => p4 (i0, s, H, C, cl, fp)) (hs i0), fl_lc l1 l2 l3 l4 hv⟩

/-! ### statements -/
inductive Out where
  | nx (ρ : Fr)
  | rt (d : D)
  | bk (ρ : Fr)
  | ct (ρ : Fr)
  | ex (n : Str) (ρ : Fr)
def Post (T : List (Addr × Str)) (K : PySem.W.Frag) (W : WN) (F0 H0 F1 : Hp) (De : Ends) : Out → Prop
  | .nx ρ => ∀ σ F H, State T K F0 H0 σ F H ρ → Same F1 F → De.nx σ H
  | .rt d => ∀ v F H, Grow T F0 H0 F H → Rp K F v d → De.rt v H
  | .bk ρ => ∀ σ F H, State T K F0 H0 σ F H ρ → Same F1 F → De.bk σ H
  | .ct ρ => ∀ σ F H, State T K F0 H0 σ F H ρ → Same F1 F → De.ct σ H
  | .ex n ρ => ∀ σ F H, State T K F0 H0 σ F H ρ → Same F1 F → W n σ H
theorem Post.grow {F0 H0 F1 F2 : Hp} {De : Ends} {o : Out} (s : Same F1 F2) (h : Post T K W F0 H0 F1 De o) : Post T K W F0 H0 F2 De o := by
  cases o with
  | nx ρ => exact fun σ F H S s2 => h σ F H S (s.trans s2)
  | rt d => exact h
  | bk ρ => exact fun σ F H S s2 => h σ F H S (s.trans s2)
  | ct ρ => exact fun σ F H S s2 => h σ F H S (s.trans s2)
  | ex n ρ => exact fun σ F H S s2 => h σ F H S (s.trans s2)
def SL (T : List (Addr × Str)) (K : PySem.W.Frag) (W : WN) (ts : TS) (m : M Out) : Prop := ∀ (F0 H0 : Hp) (σ : St) (F H : Hp) (ρ : Fr) (o : Out) (De : Ends), State T K F0 H0 σ F H ρ → m ρ = some o → Post T K W F0 H0 F De o → ts De σ H
def XS {ι : Type} (X : ι → Cx) (T : List (Addr × Str)) (K : PySem.W.Frag) (W : WN) (st : Stmt) (m : M Out) : Prop := ∃ t, (∀ i, PS (X i) st t) ∧ SL T K W t m
def XSs {ι : Type} (X : ι → Cx) (T : List (Addr × Str)) (K : PySem.W.Frag) (W : WN) (sts : List Stmt) (m : M Out) : Prop := ∃ t, (∀ i, PSs (X i) sts t) ∧ SL T K W t m
def mNext : M Out := fun ρ => some (.nx ρ)
def mSeq (a b : M Out) : M Out := fun ρ => (a ρ).bind fun o => match o with
  | .nx ρ2 => b ρ2
  | o => some o
theorem xss_nil : XSs X T K W [] mNext := ⟨_, fun _ => pss_nil, by
  intro F0 H0 σ F H ρ o De S h Q
  cases h
  exact Q σ F H S (Same.refl _)⟩
theorem xss_cons {st : Stmt} {sts : List Stmt} {a b : M Out} (h1 : XS X T K W st a) (h2 : XSs X T K W sts b) : XSs X T K W (st :: sts) (mSeq a b) := by
  obtain ⟨t, p, l⟩ := h1
  obtain ⟨u, p2, l2⟩ := h2
  refine ⟨_, fun i => pss_cons (p i) (p2 i), ?_⟩
  intro F0 H0 σ F H ρ o De S h Q
  unfold mSeq at h
  obtain ⟨o1, e1, h⟩ := Option.bind_eq_some_iff.mp h
  refine l F0 H0 σ F H ρ o1 _ S e1 ?_
  cases o1 with
  | nx ρ2 => exact fun σ' F' H' S' s' => l2 F0 H0 σ' F' H' ρ2 o De S' h (Q.grow s')
  | rt d => cases h; exact Q
  | bk ρ2 => cases h; exact Q
  | ct ρ2 => cases h; exact Q
  | ex n ρ2 => cases h; exact Q
theorem xss_one {st : Stmt} {a : M Out} (h1 : XS X T K W st a) : XSs X T K W [st] a := by
  obtain ⟨t, p, l⟩ := h1
  exact ⟨t, fun i => pss_one (p i), l⟩
theorem xs_pass {pos : Pos} : XS X T K W (.Pass pos) mNext := ⟨_, fun _ => ps_pass, by
  intro F0 H0 σ F H ρ o De S h Q
  cases h
  exact Q σ F H S (Same.refl _)⟩
theorem xs_break {pos : Pos} : XS X T K W (.Break pos) (fun ρ => some (.bk ρ)) := ⟨_, fun _ => ps_break, by
  intro F0 H0 σ F H ρ o De S h Q
  cases h
  exact Q σ F H S (Same.refl _)⟩
theorem xs_continue {pos : Pos} : XS X T K W (.Continue pos) (fun ρ => some (.ct ρ)) := ⟨_, fun _ => ps_continue, by
  intro F0 H0 σ F H ρ o De S h Q
  cases h
  exact Q σ F H S (Same.refl _)⟩
def mRet (a : M D) : M Out := fun ρ => (a ρ).map .rt
theorem xs_ret {e : Expr} {a : M D} {pos : Pos} (ha : XD X T K e a) : XS X T K W (.Return (some e) pos) (mRet a) := by
  obtain ⟨t, p, l⟩ := ha
  refine ⟨_, fun i => ps_ret (p i), ?_⟩
  intro F0 H0 σ F H ρ o De S h Q
  obtain ⟨d, e1, h⟩ := Option.map_eq_some_iff.mp h
  subst h
  exact l F0 H0 σ F H ρ d S e1 _ fun v F1 H1 g1 r1 => Q v F1 H1 (S.g.trans g1) r1
theorem xs_retN {pos : Pos} : XS X T K W (.Return none pos) (fun _ => some (.rt .none)) := ⟨_, fun _ => ps_retN, by
  intro F0 H0 σ F H ρ o De S h Q
  cases h
  exact Q .non F H S.g .non⟩
def mIfS (c : M Bool) (a b : M Out) : M Out := fun ρ => (c ρ).bind fun x => if x = true then a ρ else b ρ
theorem xs_if {c : Expr} {a b : List Stmt} {mc : M Bool} {ma mb : M Out} {pos : Pos} (hc : XT X T K c mc) (ha : XSs X T K W a ma) (hb : XSs X T K W b mb) : XS X T K W (.If c a b pos) (mIfS mc ma mb) := by
  obtain ⟨t, p, l⟩ := hc
  obtain ⟨u, p2, l2⟩ := ha
  obtain ⟨w, p3, l3⟩ := hb
  refine ⟨_, fun i => ps_if (p i) (p2 i) (p3 i), ?_⟩
  intro F0 H0 σ F H ρ o De S h Q
  unfold mIfS at h
  obtain ⟨x, e1, h⟩ := Option.bind_eq_some_iff.mp h
  refine l F0 H0 σ F H ρ x S e1 _ fun F1 H1 g1 => ?_
  cases x with
  | true =>
    rw [if_pos rfl] at h ⊢
    exact l2 F0 H0 σ F1 H1 ρ o De (S.grow g1) h (Q.grow g1.f)
  | false =>
    rw [if_neg Bool.false_ne_true] at h ⊢
    exact l3 F0 H0 σ F1 H1 ρ o De (S.grow g1) h (Q.grow g1.f)
/-- x = e, a, b = e -/
def mAsg (a : M D) (g : D → Fr → Option Fr) : M Out := fun ρ => (a ρ).bind fun d => (g d ρ).map .nx
theorem xs_asg {tg e : Expr} {is : List Nat} {a : M D} {g : D → Fr → Option Fr} {pos : Pos} (ha : XD X T K e a) (hg : XG X T K tg is g) (hs : ∀ i0, swapsWithSole [tg] e pos.line (X i0).env = pure false := by intro _; rfl) (hw : ∀ i0, swappedStores [tg] e (X i0).env = pure none := by intro _; rfl) (h1 : ∀ i0, (assignEach [tg] (X i0).env).map (·.2) = [assign tg (X i0).env] := by intro _; rfl) : XS X T K W (.Assign [tg] e pos) (mAsg a g) := by
  obtain ⟨t, p, l⟩ := ha
  obtain ⟨u, p2, l2⟩ := hg
  refine ⟨_, fun i => ps_asg (p i) (p2 i) (hs i) (hw i) (h1 i), ?_⟩
  intro F0 H0 σ F H ρ o De S h Q
  unfold mAsg at h
  obtain ⟨d, e1, h⟩ := Option.bind_eq_some_iff.mp h
  obtain ⟨ρ2, e2, h⟩ := Option.map_eq_some_iff.mp h
  subst h
  refine l F0 H0 σ F H ρ d S e1 _ fun v F1 H1 g1 r1 => ?_
  exact l2 F0 H0 σ F1 H1 ρ v d ρ2 (S.grow g1) r1 e2 _ fun σ2 S2 _ => Q σ2 F1 H1 S2 g1.f
/-- x = [.. for ..] on one line -/
theorem xs_setLc {i : Nat} {y : Str} {py : Pos} {elt tgt iter : Expr} {ifs : List Expr} {scope : Scope} {own : List (Str × Nat)} {pos spos : Pos} {mi : M (List D)} {is : List Nat} {g : D → Fr → Option Fr} {mt : M Bool} {me : M D} (hN : ∀ i0, (X i0).N.Nodup) (ok : ∀ i0, BlkOk (X i0).N (X i0).env.scope scope own) (hi : XI X T K tgt iter mi)
    (hg : XG (bx X scope) T K tgt is g) (ht : XTs (bx X scope) T K ifs mt) (he : XD (bx X scope) T K elt me)
    (hsw : ∀ i0, swapsWith (.ListComp elt [⟨tgt, iter, ifs, 0⟩] scope pos) (some (.Name y py)) spos.line (X i0).env = pure true) (hy : ∀ i0, (X i0).N[i]? = some y := by intro _; rfl) (hyl : ∀ i0, (X i0).env.scope.names.lookup y = some .local := by intro _; rfl)
    (hc : ∀ i0, (X i0).calm = true := by intro _; rfl) (hv : ∀ i ∈ is, i ∈ own.map (·.2) := by decide) (hs : ∀ i0, ∀ x, foldedSetIterable iter (X i0).env x = pure x := by intro _ _; rfl) : XS X T K W (.Assign [.Name y py] (.ListComp elt [⟨tgt, iter, ifs, 0⟩] scope pos) spos) (mAsg (mL (mLc mi (own.map (·.2)) g mt me)) (gSet i)) := by
  obtain ⟨wi, p1, l1⟩ := hi
  obtain ⟨tg, p2, l2⟩ := hg
  obtain ⟨tt, p3, l3⟩ := ht
  obtain ⟨te, p4, l4⟩ := he
  refine ⟨_, fun i0 => ps_setLc (hc i0) (hN i0) (hy i0) (hyl i0) (hsw i0) (p1 i0) (ok i0) (fun s H C cl fp => p2 (i0, s, H, C, cl, fp)) (fun s H C cl fp => p3 (i0, s, H, C, cl, fp)) (fun s H C cl fp => p4 (i0, s, H, C, cl, fp)) (hs i0), ?_⟩
  intro F0 H0 σ F H ρ o De S h Q
  unfold mAsg at h
  obtain ⟨d, e1, h⟩ := Option.bind_eq_some_iff.mp h
  obtain ⟨ρ2, e2, h⟩ := Option.map_eq_some_iff.mp h
  subst h
  refine (fl_lc l1 l2 l3 l4 hv).el F0 H0 σ F H ρ d S e1 _ fun v F1 H1 g1 r1 => ?_
  unfold gSet at e2
  split at e2
  · rename_i hl
    cases e2
    exact Q _ F1 H1 ((S.grow g1).set r1 hl) g1.f
  · cases e2
/-! ### for -/
def forD (g : D → Fr → Option Fr) (b : M Out) : List D → M Out
  | [], ρ => some (.nx ρ)
  | x :: xs, ρ => (g x ρ).bind fun ρ1 => (b ρ1).bind fun o => match o with
    | .nx ρ2 => forD g b xs ρ2
    | .ct ρ2 => forD g b xs ρ2
    | .bk ρ2 => some (.nx ρ2)
    | .rt d => some (.rt d)
    | .ex n ρ2 => some (.ex n ρ2)
def mFor (mi : M (List D)) (g : D → Fr → Option Fr) (b : M Out) : M Out := fun ρ => (mi ρ).bind fun xs => forD g b xs ρ
theorem drop_at {α : Type} {xs : List α} {i : Nat} {x : α} (h : xs[i]? = some x) : xs.drop i = x :: xs.drop (i + 1) := by
  obtain ⟨h1, h2⟩ := List.getElem?_eq_some_iff.mp h
  rw [List.drop_eq_getElem_cons h1, h2]
theorem xs_for {tgt iter : Expr} {body : List Stmt} {mi : M (List D)} {is : List Nat} {g : D → Fr → Option Fr} {mb : M Out} {pos : Pos} (hi : XI X T K tgt iter mi) (hg : XG X T K tgt is g) (hb : XSs X T K W body mb) (hp : ∀ i0, PassesOwn (model (X i0).prog (X i0).w) (X i0).A (X i0).env (X i0).xe)
    (hc : ∀ i0, (X i0).calm = true := by intro _; rfl) (hs : ∀ i0, ∀ x, foldedSetIterable iter (X i0).env x = pure x := by intro _ _; rfl) : XS X T K W (.For tgt iter body [] pos) (mFor mi g mb) := by
  obtain ⟨wi, p1, l1⟩ := hi
  obtain ⟨tg, p2, l2⟩ := hg
  obtain ⟨tb, p3, l3⟩ := hb
  refine ⟨_, fun i0 => ps_for (hp i0) (hc i0) (p1 i0) (p2 i0) (p3 i0) (hs i0), ?_⟩
  intro F0 H0 σ F H ρ o De S h Q
  unfold mFor at h
  obtain ⟨xs, e1, h⟩ := Option.bind_eq_some_iff.mp h
  refine l1 F0 H0 σ F H ρ xs S e1 _ fun J F1 H1 g1 J1 => ?_
  refine ⟨fun i m σ2 H2 => m = xs.length - i ∧ i ≤ xs.length ∧ ∃ F2 ρ2, State T K F0 H0 σ2 F2 H2 ρ2 ∧ Same F1 F2 ∧ forD g mb (xs.drop i) ρ2 = some o, ⟨xs.length, by simp, Nat.zero_le _, F1, ρ, S.grow g1, Same.refl _, h⟩, ?_⟩
  rintro i m σ2 H2 ⟨rfl, hil, F2, ρ2, S2, s2, h2⟩
  by_cases hlt : i < xs.length
  · obtain ⟨d, hd⟩ := some_at hlt
    rw [drop_at hd] at h2
    obtain ⟨ρ3, e2, h2⟩ := Option.bind_eq_some_iff.mp (show (g d ρ2).bind _ = some o from h2)
    obtain ⟨o3, e3, h2⟩ := Option.bind_eq_some_iff.mp h2
    refine .inr ⟨J1.go i H2 (s2.trans S2.s.same) hlt, fun σ3 H3 => ∃ F3 ρ3, State T K F0 H0 σ3 F3 H3 ρ3 ∧ Same F1 F3 ∧ forD g mb (xs.drop (i + 1)) ρ3 = some o, ?_, ?_⟩
    · rintro σ3 H3 ⟨F3, ρ3, a1, a2, a3⟩
      exact ⟨xs.length - (i + 1), by omega, rfl, hlt, F3, ρ3, a1, a2, a3⟩
    · intro x H3 hy
      obtain ⟨F3, g3, rx⟩ := J1.yld i d F2 H2 x H3 s2 S2.s hd hy
      have S3 := S2.grow g3
      refine l2 F0 H0 σ2 F3 H3 ρ2 x d ρ3 S3 rx e2 _ fun σ4 S4 _ => ?_
      refine l3 F0 H0 σ4 F3 H3 ρ3 o3 _ S4 e3 ?_
      have s13 := s2.trans g3.f
      cases o3 with
      | nx ρ5 => exact fun σ5 F5 H5 S5 s5 => ⟨F5, ρ5, S5, s13.trans s5, h2⟩
      | ct ρ5 => exact fun σ5 F5 H5 S5 s5 => ⟨F5, ρ5, S5, s13.trans s5, h2⟩
      | bk ρ5 => cases h2; exact fun σ5 F5 H5 S5 s5 => Q σ5 F5 H5 S5 ((g1.f.trans s13).trans s5)
      | rt d5 => cases h2; exact fun v F5 H5 g5 r5 => Q v F5 H5 g5 r5
      | ex n5 ρ5 => cases h2; exact fun σ5 F5 H5 S5 s5 => Q σ5 F5 H5 S5 ((g1.f.trans s13).trans s5)
  · have e : i = xs.length := by omega
    subst e
    rw [List.drop_length] at h2
    cases h2
    exact .inl ⟨J1.stop _ H2 (s2.trans S2.s.same) (Nat.le_refl _), Q σ2 F2 H2 S2 (g1.f.trans s2)⟩
end
end Pd

namespace Pd
open PySem PySem.Spec PyProof.Rows L2
section
variable {ι : Type} {T : List (Addr × Str)} {K : PySem.W.Frag} {W : WN} {X : ι → Cx}
/-! ### a list of one's own hand -/
theorem State.own {F0 H0 F H F' H' : Hp} {σ : St} {ρ : Fr} {i : Nat} {a : Addr} {vs : List V} {ds : List D} (S : State T K F0 H0 σ F H ρ) (g : Grow T F H F' H') (ha : H' a = some (.lst vs)) (hf : F' a = Option.none) (hn : Fre (H a)) (r : RpAll K F' vs ds) (hi : i < ρ.length) :
    State T K F0 H0 (σ.set i (some (.ref a))) F' H' (ρ.set i (.ow ds)) := by
  have S' := S.grow g
  have apart : ∀ (j : Nat) (es : List D) (b : Addr), ρ[j]? = some (.ow es) → σ[j]? = some (some (.ref b)) → b ≠ a := fun j es b e1 e2 z => by
    obtain ⟨a', vs', e3, e4, _⟩ := S.ow j es e1
    rw [e2] at e3
    cases e3
    rw [z] at e4
    rw [e4] at hn
    exact hn.lst
  have hiσ : i < σ.length := by rw [← S.ln]; exact hi
  refine ⟨S'.g, by rw [List.length_set, List.length_set]; exact S.ln, fun j e h => ?_, fun j es h => ?_, fun j k es fs b c h1 h2 h3 h4 => ?_, fun j b h => ?_⟩
  · by_cases hj : i = j
    · subst hj
      rw [List.getElem?_set_self hi] at h
      cases h
    · rw [List.getElem?_set_ne hj] at h ⊢
      exact S'.va j e h
  · by_cases hj : i = j
    · subst hj
      rw [List.getElem?_set_self hi] at h
      cases h
      exact ⟨a, vs, List.getElem?_set_self hiσ, ha, hf, S.g.h.free hn, r⟩
    · rw [List.getElem?_set_ne hj] at h ⊢
      exact S'.ow j es h
  · intro hjk
    by_cases hj : i = j
    · subst hj
      rw [List.getElem?_set_self hiσ] at h3
      cases h3
      rw [List.getElem?_set_ne hjk] at h2 h4
      exact (apart k fs c h2 h4).symm
    · rw [List.getElem?_set_ne hj] at h1 h3
      by_cases hk : i = k
      · subst hk
        rw [List.getElem?_set_self hiσ] at h4
        cases h4
        exact apart j es b h1 h3
      · rw [List.getElem?_set_ne hk] at h2 h4
        exact S.dj j k es fs b c h1 h2 h3 h4 hjk
  · by_cases hj : i = j
    · subst hj
      rw [List.getElem?_set_self hi] at h
      cases h
    · rw [List.getElem?_set_ne hj] at h ⊢
      exact S.raw j b h
theorem State.put {F0 H0 F H : Hp} {σ : St} {ρ : Fr} {i : Nat} {a : Addr} {vs vs' : List V} {ds ds' : List D} (S : State T K F0 H0 σ F H ρ) (hi : ρ[i]? = some (.ow ds)) (hs : σ[i]? = some (some (.ref a))) (r : RpAll K F vs' ds') :
    State T K F0 H0 σ F (upd H a (.lst vs')) (ρ.set i (.ow ds')) := by
  obtain ⟨a', us, e1, e2, e3, e4, _⟩ := S.ow i ds hi
  rw [hs] at e1
  cases e1
  have hil : i < ρ.length := (List.getElem?_eq_some_iff.mp hi).1
  refine ⟨⟨S.g.f, S.g.h.put e4 e2, ⟨fun b u e => by rw [upd_ne (ne_of_none e e3)]; exact S.g.s.same _ _ e, S.g.s.nt, Tabs_put e2 S.g.s.tabs⟩, S.g.n⟩, by rw [List.length_set]; exact S.ln, fun j e h => ?_, fun j es h => ?_, fun j k es fs b c h1 h2 h3 h4 hjk => ?_, fun j b h => ?_⟩
  · by_cases hj : i = j
    · subst hj
      rw [List.getElem?_set_self hil] at h
      cases h
    · rw [List.getElem?_set_ne hj] at h
      exact S.va j e h
  · by_cases hj : i = j
    · subst hj
      rw [List.getElem?_set_self hil] at h
      cases h
      exact ⟨a, vs', hs, upd_same, e3, e4, r⟩
    · rw [List.getElem?_set_ne hj] at h
      obtain ⟨b, ws, f1, f2, f3⟩ := S.ow j es h
      exact ⟨b, ws, f1, by rw [upd_ne (S.dj j i es ds b a h hi f1 hs (Ne.symm hj))]; exact f2, f3⟩
  · have fixj : ∃ es', ρ[j]? = some (.ow es') := by
      by_cases hj : i = j
      · subst hj; exact ⟨ds, hi⟩
      · rw [List.getElem?_set_ne hj] at h1; exact ⟨es, h1⟩
    have fixk : ∃ fs', ρ[k]? = some (.ow fs') := by
      by_cases hk : i = k
      · subst hk; exact ⟨ds, hi⟩
      · rw [List.getElem?_set_ne hk] at h2; exact ⟨fs, h2⟩
    obtain ⟨es', q1⟩ := fixj
    obtain ⟨fs', q2⟩ := fixk
    exact S.dj j k es' fs' b c q1 q2 h3 h4 hjk
  · by_cases hj : i = j
    · subst hj
      rw [List.getElem?_set_self hil] at h
      cases h
    · rw [List.getElem?_set_ne hj] at h
      exact S.raw j b h
/-- x = a new list, of one's own hand from here on -/
def mOwn (a : M (List D)) (i : Nat) : M Out := fun ρ => (a ρ).bind fun ds => if i < ρ.length then some (.nx (ρ.set i (.ow ds))) else none
theorem sl_own {te : TE} {a : M (List D)} {i : Nat} (l : FL T K te a) : SL T K W (tAsg te (gName i)) (mOwn a i) := by
  intro F0 H0 σ F H ρ o De S h Q
  unfold mOwn at h
  obtain ⟨ds, e1, h⟩ := Option.bind_eq_some_iff.mp h
  split at h
  · rename_i hi
    cases h
    exact l F0 H0 σ F H ρ ds S e1 _ fun b vs F1 H1 g1 ha hf hn r => Q _ F1 H1 (S.own g1 ha hf hn r hi) g1.f
  · cases h
theorem xs_own {i : Nat} {x : Str} {py : Pos} {e : Expr} {a : M (List D)} {pos : Pos} (ha : XF X T K e a) (hN : ∀ i0, (X i0).N.Nodup) (hi : ∀ i0, (X i0).N[i]? = some x := by intro _; rfl) (hx : ∀ i0, Loc (X i0).env.scope x := by intro _; first | exact Or.inl rfl | exact Or.inr rfl) (hf : ∀ i0, (X i0).fn x = true ∨ (X i0).env.scope.names.lookup x = some .local := by intro _; first | exact .inl rfl | exact .inr rfl)
    (hs : ∀ i0, swapsWith e (some (.Name x py)) pos.line (X i0).env = pure false := by intro _; rfl) : XS X T K W (.Assign [.Name x py] e pos) (mOwn a i) := by
  obtain ⟨t, p, l⟩ := ha
  exact ⟨_, fun i0 => ps_set (hN i0) (hi i0) (hx i0) (p i0) (hs i0) (hf i0), sl_own l⟩
theorem xs_ownLc {i : Nat} {y : Str} {py : Pos} {elt tgt iter : Expr} {ifs : List Expr} {scope : Scope} {own : List (Str × Nat)} {pos spos : Pos} {mi : M (List D)} {is : List Nat} {g : D → Fr → Option Fr} {mt : M Bool} {me : M D} (hN : ∀ i0, (X i0).N.Nodup) (ok : ∀ i0, BlkOk (X i0).N (X i0).env.scope scope own) (hi : XI X T K tgt iter mi)
    (hg : XG (bx X scope) T K tgt is g) (ht : XTs (bx X scope) T K ifs mt) (he : XD (bx X scope) T K elt me)
    (hsw : ∀ i0, swapsWith (.ListComp elt [⟨tgt, iter, ifs, 0⟩] scope pos) (some (.Name y py)) spos.line (X i0).env = pure true) (hy : ∀ i0, (X i0).N[i]? = some y := by intro _; rfl) (hyl : ∀ i0, (X i0).env.scope.names.lookup y = some .local := by intro _; rfl)
    (hc : ∀ i0, (X i0).calm = true := by intro _; rfl) (hv : ∀ i ∈ is, i ∈ own.map (·.2) := by decide) (hs : ∀ i0, ∀ x, foldedSetIterable iter (X i0).env x = pure x := by intro _ _; rfl) : XS X T K W (.Assign [.Name y py] (.ListComp elt [⟨tgt, iter, ifs, 0⟩] scope pos) spos) (mOwn (mLc mi (own.map (·.2)) g mt me) i) := by
  obtain ⟨wi, p1, l1⟩ := hi
  obtain ⟨tg, p2, l2⟩ := hg
  obtain ⟨tt, p3, l3⟩ := ht
  obtain ⟨te, p4, l4⟩ := he
  exact ⟨_, fun i0 => ps_setLc (hc i0) (hN i0) (hy i0) (hyl i0) (hsw i0) (p1 i0) (ok i0) (fun s H C cl fp => p2 (i0, s, H, C, cl, fp)) (fun s H C cl fp => p3 (i0, s, H, C, cl, fp)) (fun s H C cl fp => p4 (i0, s, H, C, cl, fp)) (hs i0), sl_own (fl_lc l1 l2 l3 l4 hv)⟩
/-- x.append(e) -/
def mApp (i : Nat) (a : M D) : M Out := fun ρ => match ρ[i]? with
  | some (.ow ds) => (a ρ).bind fun d => if ds.length < sizeLine then some (.nx (ρ.set i (.ow (ds ++ [d])))) else none
  | _ => none
theorem xs_app (i : Nat) {x : Str} {e : Expr} {a : M D} {p1 apos cpos pos : Pos} (ha : XD X T K e a) (hN : ∀ i0, (X i0).N[i]? = some x := by intro _; rfl) (hv : ∀ i0, Vis (X i0).env.scope x := by intro _; first | exact Or.inl rfl | exact Or.inr (Or.inl rfl) | exact Or.inr (Or.inr rfl)) (hd : (x == ("__debug__" : Str)) = false := by decide) (hcd : (x == ("__classdict__" : Str)) = false := by decide)
    (h1 : ∀ i0, attributeBase (.Name x p1) (Str.ofString "append") (X i0).env (eval (.Name x p1) (X i0).env) = eval (.Name x p1) (X i0).env := by intro _; rfl)
    (h2 : ∀ i0, (((backTo cpos (starEach (e :: []) (X i0).env)).all fun x => !x.1) && (backToKw cpos (keywordEach [] (X i0).env)).all (·.1.isSome) && decide ((e :: ([] : List Expr)).length + ([] : List Keyword).length + (if ([] : List Keyword).isEmpty = true then 0 else 1) < 30)) = true := by intro _; rfl)
    (h3 : (apos.endLine == cpos.line) = true := by rfl) (h4 : ∀ i0, starEach (e :: []) (X i0).env = (false, eval e (X i0).env) :: starEach [] (X i0).env := by intro _; rfl) (h5 : ∀ i0, (backTo cpos (starEach [] (X i0).env)).any (·.1) = false := by intro _; rfl)
    (hs : ∀ i0, swapsWith (.Call (.Attribute (.Name x p1) (Str.ofString "append") apos) [e] [] cpos) none pos.line (X i0).env = pure false := by intro _; rfl) (k : ∀ i0, (X i0).K = K := by intro _; rfl) :
    XS X T K W (.Expr (.Call (.Attribute (.Name x p1) (Str.ofString "append") apos) [e] [] cpos) pos) (mApp i a) := by
  obtain ⟨t, p, l⟩ := ha
  refine ⟨tDrop (tBM K "list" rAppend (tVar i) (tCons t tNil)), fun i0 => by
    have e := k i0
    subst e
    exact ps_expr (pe_bm PySem.F.plainAttrs_list PySem.F.slot_list_append PySem.F.type_list_append mt_append (pe_var (hN i0) (hv i0) hd hcd) (pa_cons (p i0) pa_nil (h4 i0)) (h1 i0) (h2 i0) h3 (h4 i0) (h5 i0)) (hs i0), ?_⟩
  intro F0 H0 σ F H ρ o De S h Q
  unfold mApp at h
  split at h
  · rename_i ds hi
    obtain ⟨d, e1, h⟩ := Option.bind_eq_some_iff.mp h
    split at h
    · rename_i hz
      cases h
      obtain ⟨b, vs, f1, f2, f3, f4, r⟩ := S.ow i ds hi
      refine ⟨_, f1, .inl ⟨rfl, _, SqL.of f2⟩, ?_⟩
      refine l F0 H0 σ F H ρ d S e1 _ fun v F1 H1 g1 r1 => ?_
      have S1 := S.grow g1
      refine ⟨b, vs, v, rfl, rfl, g1.h.lst f2, by rw [r.length]; exact hz, ?_⟩
      exact Q _ F1 _ (S1.put (vs := vs) hi f1 ((r.mono g1.f).append (.cons r1 .nil))) g1.f
    · cases h
  · cases h
/-- from here on the list stays -/
def frzF (i : Nat) (ρ : Fr) : Fr := match ρ[i]? with
  | some (.ow ds) => ρ.set i (.va (.list ds))
  | _ => ρ
theorem State.frz {F0 H0 F H : Hp} {σ : St} {ρ : Fr} (S : State T K F0 H0 σ F H ρ) (i : Nat) : ∃ F1, Same F F1 ∧ State T K F0 H0 σ F1 H (frzF i ρ) := by
  unfold frzF
  split
  · rename_i ds hi
    obtain ⟨a, vs, f1, f2, f3, f4, r⟩ := S.ow i ds hi
    have hil : i < ρ.length := (List.getElem?_eq_some_iff.mp hi).1
    have s2 : Same F (upd F a (.lst vs)) := fun b u e => by rw [upd_ne (ne_of_none e f3)]; exact e
    refine ⟨upd F a (.lst vs), s2, ⟨⟨S.g.f.trans s2, S.g.h, ⟨fun b u e => ?_, fun b ps e => ?_, S.g.s.tabs⟩, fun b u e n => ?_⟩, by rw [List.length_set]; exact S.ln, fun j e h => ?_, fun j es h => ?_, fun j k es fs b c h1 h2 h3 h4 hjk => ?_, fun j b h => ?_⟩⟩
    · by_cases hb : b = a
      · subst hb; rw [upd_same] at e; cases e; exact f2
      · rw [upd_ne hb] at e; exact S.g.s.same _ _ e
    · by_cases hb : b = a
      · subst hb; rw [upd_same] at e; cases e
      · rw [upd_ne hb] at e; exact S.g.s.nt b ps e
    · by_cases hb : b = a
      · subst hb; exact f4
      · rw [upd_ne hb] at e; exact S.g.n _ _ e n
    · by_cases hj : i = j
      · subst hj
        rw [List.getElem?_set_self hil] at h
        cases h
        exact ⟨_, f1, .lst (SqL.of upd_same) (r.mono s2)⟩
      · rw [List.getElem?_set_ne hj] at h
        obtain ⟨v, e1, rv⟩ := S.va j e h
        exact ⟨v, e1, rv.mono s2⟩
    · by_cases hj : i = j
      · subst hj
        rw [List.getElem?_set_self hil] at h
        cases h
      · rw [List.getElem?_set_ne hj] at h
        obtain ⟨b, ws, q1, q2, q3, q4, r2⟩ := S.ow j es h
        exact ⟨b, ws, q1, q2, by rw [upd_ne (S.dj j i es ds b a h hi q1 f1 (Ne.symm hj))]; exact q3, q4, r2.mono s2⟩
    · by_cases hj : i = j
      · subst hj
        rw [List.getElem?_set_self hil] at h1
        cases h1
      · by_cases hk : i = k
        · subst hk
          rw [List.getElem?_set_self hil] at h2
          cases h2
        · rw [List.getElem?_set_ne hj] at h1
          rw [List.getElem?_set_ne hk] at h2
          exact S.dj j k es fs b c h1 h2 h3 h4 hjk
    · by_cases hj : i = j
      · subst hj
        rw [List.getElem?_set_self hil] at h
        cases h
      · rw [List.getElem?_set_ne hj] at h
        exact S.raw j b h
  · exact ⟨F, Same.refl _, S⟩
theorem xss_frz (i : Nat) {sts : List Stmt} {m : M Out} (h : XSs X T K W sts m) : XSs X T K W sts (fun ρ => m (frzF i ρ)) := by
  obtain ⟨t, p, l⟩ := h
  refine ⟨t, p, ?_⟩
  intro F0 H0 σ F H ρ o De S hm Q
  obtain ⟨F1, s1, S1⟩ := S.frz i
  exact l F0 H0 σ F1 H _ o De S1 hm (Q.grow s1)
theorem xs_frz (i : Nat) {st : Stmt} {m : M Out} (h : XS X T K W st m) : XS X T K W st (fun ρ => m (frzF i ρ)) := by
  obtain ⟨t, p, l⟩ := h
  refine ⟨t, p, ?_⟩
  intro F0 H0 σ F H ρ o De S hm Q
  obtain ⟨F1, s1, S1⟩ := S.frz i
  exact l F0 H0 σ F1 H _ o De S1 hm (Q.grow s1)
/-! ### one's own lists seen as data, where nothing of them is handed on -/
def showE : Ent → Ent
  | .ow ds => .va (.list ds)
  | e => e
def showF (ρ : Fr) : Fr := ρ.map showE
open Classical in
theorem State.shown {F0 H0 F H : Hp} {σ : St} {ρ : Fr} (S : State T K F0 H0 σ F H ρ) : ∃ F1, Same F F1 ∧ State T K F0 H0 σ F1 H (showF ρ) := by
  let F1 : Hp := fun b => if (∃ (i : Nat) (ds : List D), ρ[i]? = some (.ow ds) ∧ σ[i]? = some (some (.ref b))) then H b else F b
  have s1 : Same F F1 := fun b u e => by
    show (if _ then H b else F b) = some u
    split
    · exact S.g.s.same _ _ e
    · exact e
  have own : ∀ (i : Nat) (ds : List D) (a : Addr), ρ[i]? = some (.ow ds) → σ[i]? = some (some (.ref a)) → F1 a = H a := fun i ds a h1 h2 => if_pos ⟨i, ds, h1, h2⟩
  refine ⟨F1, s1, ⟨⟨S.g.f.trans s1, S.g.h, ⟨fun b u e => ?_, fun b ps e => ?_, S.g.s.tabs⟩, fun b u e n => ?_⟩, by unfold showF; rw [List.length_map]; exact S.ln, fun j e h => ?_, fun j es h => ?_, fun j k es fs b c h1 => ?_, fun j b h => ?_⟩⟩
  · have e' : (if (∃ (i : Nat) (ds : List D), ρ[i]? = some (.ow ds) ∧ σ[i]? = some (some (.ref b))) then H b else F b) = some u := e
    split at e'
    · exact e'
    · exact S.g.s.same _ _ e'
  · have e' : (if (∃ (i : Nat) (ds : List D), ρ[i]? = some (.ow ds) ∧ σ[i]? = some (some (.ref b))) then H b else F b) = some (.tbl ps) := e
    split at e'
    · rename_i hx
      obtain ⟨i, ds, q1, q2⟩ := hx
      obtain ⟨a, vs, f1, f2, _⟩ := S.ow i ds q1
      rw [q2] at f1
      cases f1
      rw [f2] at e'
      cases e'
    · exact S.g.s.nt b ps e'
  · have e' : (if (∃ (i : Nat) (ds : List D), ρ[i]? = some (.ow ds) ∧ σ[i]? = some (some (.ref b))) then H b else F b) = some u := e
    split at e'
    · rename_i hx
      obtain ⟨i, ds, q1, q2⟩ := hx
      obtain ⟨a, vs, f1, _, _, f4, _⟩ := S.ow i ds q1
      rw [q2] at f1
      cases f1
      exact f4
    · exact S.g.n _ _ e' n
  · unfold showF at h
    rw [List.getElem?_map] at h
    cases q : ρ[j]? with
    | none => rw [q] at h; cases h
    | some w =>
      rw [q] at h
      cases w with
      | no => cases h
      | va d =>
        cases h
        obtain ⟨v, e1, r⟩ := S.va j _ q
        exact ⟨v, e1, r.mono s1⟩
      | ow ds =>
        cases h
        obtain ⟨a, vs, f1, f2, _, _, r⟩ := S.ow j ds q
        exact ⟨_, f1, .lst (SqL.of (by rw [own j ds a q f1]; exact f2)) (r.mono s1)⟩
      | raw a => cases h
  · unfold showF at h
    rw [List.getElem?_map] at h
    cases q : ρ[j]? with
    | none => rw [q] at h; cases h
    | some w => rw [q] at h; cases w <;> cases h
  · unfold showF at h1
    rw [List.getElem?_map] at h1
    cases q : ρ[j]? with
    | none => rw [q] at h1; cases h1
    | some w => rw [q] at h1; cases w <;> cases h1
  · unfold showF at h
    rw [List.getElem?_map] at h
    cases q : ρ[j]? with
    | none => rw [q] at h; cases h
    | some w =>
      rw [q] at h
      cases w <;> cases h
      exact S.raw j b q
theorem flat_any {H H' : Hp} {v : V} {d : D} (r : Rp K H v d) (h : flatD d = true) : Rp K H' v d := by
  cases r <;> first | (simp only [flatD] at h; cases h; done) | constructor
def mShow (a : M D) : M D := fun ρ => (a (showF ρ)).bind fun d => if flatD d then some d else none
theorem xd_show {e : Expr} {a : M D} (ha : XD X T K e a) : XD X T K e (mShow a) := by
  obtain ⟨t, p, l⟩ := ha
  refine ⟨t, p, ?_⟩
  intro F0 H0 σ F H ρ d S h Q q
  unfold mShow at h
  obtain ⟨y, e1, h⟩ := Option.bind_eq_some_iff.mp h
  split at h
  · rename_i hf
    cases h
    obtain ⟨F1, s1, S1⟩ := S.shown
    refine l F0 H0 σ F1 H _ _ S1 e1 _ fun v F2 H2 g2 r2 => ?_
    exact q v F H2 ⟨Same.refl _, g2.h, S.s.keep g2.h, fun b o e n => by rw [n] at e; cases e⟩ (flat_any r2 hf)
  · cases h
def mShowT (a : M Bool) : M Bool := fun ρ => a (showF ρ)
theorem xt_show {e : Expr} {a : M Bool} (ha : XT X T K e a) : XT X T K e (mShowT a) := by
  obtain ⟨t, p, l⟩ := ha
  refine ⟨t, p, ?_⟩
  intro F0 H0 σ F H ρ b S h Q q
  obtain ⟨F1, s1, S1⟩ := S.shown
  refine l F0 H0 σ F1 H _ _ S1 h _ fun F2 H2 g2 => ?_
  exact q F H2 ⟨Same.refl _, g2.h, S.s.keep g2.h, fun b o e n => by rw [n] at e; cases e⟩
end
/-! ### a def -/
/-- nothing is raised -/
def W0 : WN := fun _ _ _ => False
def startF (nl : Nat) (ds : List D) : Fr := ds.map .va ++ List.replicate (nl - ds.length) .no
def runD (np nl : Nat) (m : M Out) (ds : List D) : Option D := if ds.length = np then (m (startF nl ds)).bind fun o => match o with
  | .rt d => some d
  | .nx _ => some .none
  | _ => none
  else none
theorem start_state {T : List (Addr × Str)} {K : PySem.W.Frag} {F H : Hp} {N : List Str} {vs : List V} {ds : List D} (s : Sub T F H) (r : RpAll K F vs ds) : State T K F H (L2.start N vs) F H (startF N.length ds) where
  g := Grow.refl s
  ln := by unfold startF L2.start; simp [r.length]
  va := fun i d h => by
    unfold startF at h
    by_cases hi : i < ds.length
    · rw [List.getElem?_append_left (by simpa using hi), List.getElem?_map] at h
      obtain ⟨e, he⟩ := some_at hi
      rw [he] at h
      cases h
      obtain ⟨v, hv, rv⟩ := r.got he
      refine ⟨v, ?_, rv⟩
      unfold L2.start
      rw [List.getElem?_append_left (by rw [List.length_map, r.length]; exact hi), List.getElem?_map, hv]
      rfl
    · rw [List.getElem?_append_right (by simpa using hi), List.getElem?_replicate] at h
      split at h <;> cases h
  ow := fun i ds' h => by
    unfold startF at h
    by_cases hi : i < ds.length
    · rw [List.getElem?_append_left (by simpa using hi), List.getElem?_map] at h
      obtain ⟨e, he⟩ := some_at hi
      rw [he] at h
      cases h
    · rw [List.getElem?_append_right (by simpa using hi), List.getElem?_replicate] at h
      split at h <;> cases h
  dj := fun i j ds' es a b h => by
    unfold startF at h
    by_cases hi : i < ds.length
    · rw [List.getElem?_append_left (by simpa using hi), List.getElem?_map] at h
      obtain ⟨e, he⟩ := some_at hi
      rw [he] at h
      cases h
    · rw [List.getElem?_append_right (by simpa using hi), List.getElem?_replicate] at h
      split at h <;> cases h
  raw := fun i a h => by
    unfold startF at h
    by_cases hi : i < ds.length
    · rw [List.getElem?_append_left (by simpa using hi), List.getElem?_map] at h
      obtain ⟨e, he⟩ := some_at hi
      rw [he] at h
      cases h
    · rw [List.getElem?_append_right (by simpa using hi), List.getElem?_replicate] at h
      split at h <;> cases h
section
variable {P : Program} {w : World} {T : List (Addr × Str)} {K : PySem.W.Frag} {mg : Str → Option Value} {base : Heap}
theorem fnD {x qual : Str} {st : Stmt} {f : Addr} {fd : FuncData} {N ps : List Str} {k : Nat} {m : M Out} (F : Fun K x qual st f fd) (S : FnScope N ps (defScope st))
    (hb : ∀ (cdv : Value) (A : Around) (outer : List Env) (s : Shared) (H : Hp) (E : XK), Room k (A.deeper (envOfC qual (defScope st) s.heap.objs.size f cdv)) → XSs (fun _ : Unit => (cxOf CX0 P w K mg base N qual (defScope st) f cdv A outer s H E).nox) T K W0 (defBody st) m) :
    FnOk P w K mg base CX0 (k + 1) f fd ps (spD T K (runD ps.length N.length m)) := by
  refine F.ok S (fun vs H Q E h => ?_) (fun cdv A outer s H vs Q E hr h => ?_)
  · obtain ⟨F0, ds, d, s0, r, e, _⟩ := h
    unfold runD at e
    split at e
    · rename_i hz
      rw [r.length]; exact hz
    · cases e
  · obtain ⟨F0, ds, d, s0, r, e, q⟩ := h
    obtain ⟨t, p, l⟩ := hb cdv A outer s H E hr
    refine ⟨t, p (), ?_⟩
    unfold runD at e
    split at e
    · obtain ⟨o, e1, e2⟩ := Option.bind_eq_some_iff.mp e
      refine l F0 H _ F0 H _ o _ (start_state s0 r) e1 ?_
      cases o with
      | rt d' => cases e2; exact fun v F1 H1 g1 r1 => q v F1 H1 g1 r1
      | nx ρ => cases e2; exact fun σ F1 H1 S1 _ => q .non F1 H1 S1.g .non
      | bk ρ => cases e2
      | ct ρ => cases e2
      | ex n ρ => cases e2
    · cases e
/-- a def is worth another function where that gives the same -/
theorem spD_imp {f : Addr} {fd : FuncData} {ps : List Str} {k : Nat} {g g' : List D → Option D} (F : FnOk P w K mg base CX0 k f fd ps (spD T K g)) (h : ∀ ds d, g' ds = some d → g ds = some d) : FnOk P w K mg base CX0 k f fd ps (spD T K g') :=
  F.imp fun vs H Q E ⟨F0, ds, d, s, r, e, q⟩ => ⟨F0, ds, d, s, r, h ds d e, q⟩
end
end Pd

namespace Pd
open PySem PySem.Spec PyProof.Rows L2
section
variable {ι : Type} {T : List (Addr × Str)} {K : PySem.W.Frag} {W : WN} {X : ι → Cx} {e : Expr} {es : List Expr} {m : M (List D)} {p pos : Pos}
theorem xd_len (ha : XA X T K (e :: es) m) (hm : ∀ i0, (X i0).mg "len" = none) (hg : ∀ i0, Gl (X i0) "len" := by intro _; rfl) (he : ∀ i0, starEach (e :: es) (X i0).env = (false, eval e (X i0).env) :: starEach es (X i0).env := by intro _; rfl) (hpl : ∀ i0, (backTo pos (starEach es (X i0).env)).any (·.1) = false := by intro _; rfl) (k : ∀ i0, (X i0).K = K := by intro _; rfl) :
    XD X T K (.Call (.Name "len" p) (e :: es) [] pos) (mA dLen m) :=
  xd_callB (id := "len") (r := rLen3 K) (fun i0 => by have e := k i0; subst e; exact call_len3) cl_len hm (by decide +kernel) ha hg (by decide) (by decide) he hpl
theorem xd_all (ha : XA X T K (e :: es) m) (hm : ∀ i0, (X i0).mg "all" = none) (hc : ∀ i0, (X i0).calm = true := by intro _; rfl) (hg : ∀ i0, Gl (X i0) "all" := by intro _; rfl) (he : ∀ i0, starEach (e :: es) (X i0).env = (false, eval e (X i0).env) :: starEach es (X i0).env := by intro _; rfl) (hpl : ∀ i0, (backTo pos (starEach es (X i0).env)).any (·.1) = false := by intro _; rfl) (k : ∀ i0, (X i0).K = K := by intro _; rfl) :
    XD X T K (.Call (.Name "all" p) (e :: es) [] pos) (mA dAll m) :=
  xd_callB (id := "all") (r := rAll K) (fun i0 => by have e := k i0; subst e; exact cr_all (hc i0)) cl_all hm (by decide +kernel) ha hg (by decide) (by decide) he hpl
theorem xd_any (ha : XA X T K (e :: es) m) (hm : ∀ i0, (X i0).mg "any" = none) (hc : ∀ i0, (X i0).calm = true := by intro _; rfl) (hg : ∀ i0, Gl (X i0) "any" := by intro _; rfl) (he : ∀ i0, starEach (e :: es) (X i0).env = (false, eval e (X i0).env) :: starEach es (X i0).env := by intro _; rfl) (hpl : ∀ i0, (backTo pos (starEach es (X i0).env)).any (·.1) = false := by intro _; rfl) (k : ∀ i0, (X i0).K = K := by intro _; rfl) :
    XD X T K (.Call (.Name "any" p) (e :: es) [] pos) (mA dAny m) :=
  xd_callB (id := "any") (r := rAny K) (fun i0 => by have e := k i0; subst e; exact cr_any (hc i0)) cl_any hm (by decide +kernel) ha hg (by decide) (by decide) he hpl
theorem xd_abs (ha : XA X T K (e :: es) m) (hm : ∀ i0, (X i0).mg "abs" = none) (hg : ∀ i0, Gl (X i0) "abs" := by intro _; rfl) (he : ∀ i0, starEach (e :: es) (X i0).env = (false, eval e (X i0).env) :: starEach es (X i0).env := by intro _; rfl) (hpl : ∀ i0, (backTo pos (starEach es (X i0).env)).any (·.1) = false := by intro _; rfl) :
    XD X T K (.Call (.Name "abs" p) (e :: es) [] pos) (mA dAbs m) :=
  xd_callB (fun _ => call_abs) cl_abs hm (by decide +kernel) ha hg (by decide) (by decide) he hpl
theorem xd_max2 (ha : XA X T K (e :: es) m) (hm : ∀ i0, (X i0).mg "max" = none) (hc : ∀ i0, (X i0).calm = true := by intro _; rfl) (hg : ∀ i0, Gl (X i0) "max" := by intro _; rfl) (he : ∀ i0, starEach (e :: es) (X i0).env = (false, eval e (X i0).env) :: starEach es (X i0).env := by intro _; rfl) (hpl : ∀ i0, (backTo pos (starEach es (X i0).env)).any (·.1) = false := by intro _; rfl) :
    XD X T K (.Call (.Name "max" p) (e :: es) [] pos) (mA dMax2 m) :=
  xd_callB (fun i0 => call_max2 (hc i0)) cl_max2 hm (by decide +kernel) ha hg (by decide) (by decide) he hpl
theorem xd_min2 (ha : XA X T K (e :: es) m) (hm : ∀ i0, (X i0).mg "min" = none) (hc : ∀ i0, (X i0).calm = true := by intro _; rfl) (hg : ∀ i0, Gl (X i0) "min" := by intro _; rfl) (he : ∀ i0, starEach (e :: es) (X i0).env = (false, eval e (X i0).env) :: starEach es (X i0).env := by intro _; rfl) (hpl : ∀ i0, (backTo pos (starEach es (X i0).env)).any (·.1) = false := by intro _; rfl) :
    XD X T K (.Call (.Name "min" p) (e :: es) [] pos) (mA dMin2 m) :=
  xd_callB (fun i0 => call_min2 (hc i0)) cl_min2 hm (by decide +kernel) ha hg (by decide) (by decide) he hpl
theorem xd_int1 (ha : XA X T K (e :: es) m) (hm : ∀ i0, (X i0).mg "int" = none) (hg : ∀ i0, Gl (X i0) "int" := by intro _; rfl) (he : ∀ i0, starEach (e :: es) (X i0).env = (false, eval e (X i0).env) :: starEach es (X i0).env := by intro _; rfl) (hpl : ∀ i0, (backTo pos (starEach es (X i0).env)).any (·.1) = false := by intro _; rfl) :
    XD X T K (.Call (.Name "int" p) (e :: es) [] pos) (mA dInt m) :=
  xd_callTy (fun _ => call_int1) cl_int hm (by decide +kernel) ha hg (by decide) (by decide) he hpl
theorem xd_str1 (ha : XA X T K (e :: es) m) (hm : ∀ i0, (X i0).mg "str" = none) (hg : ∀ i0, Gl (X i0) "str" := by intro _; rfl) (he : ∀ i0, starEach (e :: es) (X i0).env = (false, eval e (X i0).env) :: starEach es (X i0).env := by intro _; rfl) (hpl : ∀ i0, (backTo pos (starEach es (X i0).env)).any (·.1) = false := by intro _; rfl) :
    XD X T K (.Call (.Name "str" p) (e :: es) [] pos) (mA dStr m) :=
  xd_callTy (fun _ => call_str_int) cl_str hm (by decide +kernel) ha hg (by decide) (by decide) he hpl
theorem xd_list1 (ha : XA X T K (e :: es) m) (hm : ∀ i0, (X i0).mg "list" = none) (hg : ∀ i0, Gl (X i0) "list" := by intro _; rfl) (he : ∀ i0, starEach (e :: es) (X i0).env = (false, eval e (X i0).env) :: starEach es (X i0).env := by intro _; rfl) (hpl : ∀ i0, (backTo pos (starEach es (X i0).env)).any (·.1) = false := by intro _; rfl) (k : ∀ i0, (X i0).K = K := by intro _; rfl) :
    XD X T K (.Call (.Name "list" p) (e :: es) [] pos) (mA dListOf m) :=
  xd_callTy (Ty := "list") (r := fun xs H Q => ∃ p ys, xs = [V.ref p] ∧ (SqL K H p ys ∨ SqT K H p ys) ∧ ∀ l, H l = none → Q (.ref l) (upd H l (.lst ys))) (fun i0 => by have e := k i0; subst e; exact call_list_of) cl_list hm (by decide +kernel) ha hg (by decide) (by decide) he hpl
theorem xd_tuple1 (ha : XA X T K (e :: es) m) (hm : ∀ i0, (X i0).mg "tuple" = none) (hg : ∀ i0, Gl (X i0) "tuple" := by intro _; rfl) (he : ∀ i0, starEach (e :: es) (X i0).env = (false, eval e (X i0).env) :: starEach es (X i0).env := by intro _; rfl) (hpl : ∀ i0, (backTo pos (starEach es (X i0).env)).any (·.1) = false := by intro _; rfl) (k : ∀ i0, (X i0).K = K := by intro _; rfl) :
    XD X T K (.Call (.Name "tuple" p) (e :: es) [] pos) (mA dTupleOf m) :=
  xd_callTy (Ty := "tuple") (r := fun xs H Q => ∃ p ys, xs = [V.ref p] ∧ ((SqL K H p ys ∧ ∀ l, H l = none → Q (.ref l) (upd H l (.tup ys))) ∨ SqT K H p ys ∧ Q (.ref p) H)) (fun i0 => by have e := k i0; subst e; exact call_tuple_of) cl_tuple hm (by decide +kernel) ha hg (by decide) (by decide) he hpl
end
section
variable {K : PySem.W.Frag}
theorem RpAll.reverse {H : Hp} : ∀ {vs : List V} {ds : List D}, RpAll K H vs ds → RpAll K H vs.reverse ds.reverse
  | _, _, .nil => .nil
  | _, _, .cons h r => by
    rw [List.reverse_cons, List.reverse_cons]
    exact (RpAll.reverse r).append (.cons h .nil)
end
section
variable {ι : Type} {T : List (Addr × Str)} {K : PySem.W.Frag} {W : WN} {X : ι → Cx}
/-- x.reverse() of one's own list -/
def mRev (i : Nat) : M Out := fun ρ => match ρ[i]? with
  | some (.ow ds) => some (.nx (ρ.set i (.ow ds.reverse)))
  | _ => none
theorem xs_rev (i : Nat) {x : Str} {p1 apos cpos pos : Pos} (hN : ∀ i0, (X i0).N[i]? = some x := by intro _; rfl) (hv : ∀ i0, Vis (X i0).env.scope x := by intro _; first | exact Or.inl rfl | exact Or.inr (Or.inl rfl) | exact Or.inr (Or.inr rfl)) (hd : (x == ("__debug__" : Str)) = false := by decide) (hcd : (x == ("__classdict__" : Str)) = false := by decide)
    (h1 : ∀ i0, attributeBase (.Name x p1) (Str.ofString "reverse") (X i0).env (eval (.Name x p1) (X i0).env) = eval (.Name x p1) (X i0).env := by intro _; rfl) (h3 : (apos.endLine == cpos.line) = true := by rfl)
    (hs : ∀ i0, swapsWith (.Call (.Attribute (.Name x p1) (Str.ofString "reverse") apos) [] [] cpos) none pos.line (X i0).env = pure false := by intro _; rfl) (k : ∀ i0, (X i0).K = K := by intro _; rfl) :
    XS X T K W (.Expr (.Call (.Attribute (.Name x p1) (Str.ofString "reverse") apos) [] [] cpos) pos) (mRev i) := by
  refine ⟨tDrop (tBM0 K "list" rReverse (tVar i)), fun i0 => by
    have e := k i0
    subst e
    exact ps_expr (pe_bm0 PySem.F.plainAttrs_list PySem.F.slot_list_reverse PySem.F.type_list_reverse mt_reverse (pe_var (hN i0) (hv i0) hd hcd) (h1 i0) h3) (hs i0), ?_⟩
  intro F0 H0 σ F H ρ o De S h Q
  unfold mRev at h
  split at h
  · rename_i ds hi
    cases h
    obtain ⟨b, vs, f1, f2, f3, f4, r⟩ := S.ow i ds hi
    exact ⟨_, f1, .inl ⟨rfl, _, SqL.of f2⟩, b, vs, rfl, rfl, f2, Q _ F _ (S.put (vs := vs) hi f1 r.reverse) (Same.refl _)⟩
  · cases h
end
end Pd

namespace Pd
open PySem PySem.Spec PyProof.Rows L2
/-! ### sorted(e, key=lambda pair: pair[0]) -/
abbrev lamA (ap : Pos) : Arguments := { posonlyargs := [], args := [{ arg := "pair", annotation := none, pos := ap }], vararg := none, kwonlyargs := [], kw_defaults := [], kwarg := none, defaults := [] }
abbrev lamB (p1 p2 p3 : Pos) : Expr := .Subscript (.Name "pair" p1) (.Constant (.int 0) 0 p2) p3
abbrev lamC : Scope := { kind := .function, names := [(Str.ofString "pair", .local)], isGenerator := false, isCoroutine := false, more := [] }
theorem get_push {h : Heap} {ob o : Obj} {b : Addr} (e : h.get? b = some o) : (h.push ob).get? b = some o ∧ b ≠ h.objs.size := by
  refine ⟨Heap.get?_push_of_some _ e, ?_⟩
  rintro rfl
  have q : h.objs[h.objs.size]? = none := by simp
  unfold Heap.get? at e
  rw [q] at e
  cases e
theorem lam_turn {prog : Program} {w : World} {A : Around} {E : Value → Shared → Prop} {s : Shared} {h₀ : Heap} {L : Addr} {m : Str → Option Value} {need : List (Addr × Obj)} {f c' : Addr} {qual : Str} {pm ctv : Value} {cl : List (Str × Addr)} {ap p1 p2 p3 : Pos} {t : Addr} {k : Int} {u : Tok} {its : List Value}
    (hd : A.depth + 1 < recursionLimit) (F : PyProof.Rows.Fr h₀ L s.heap m) (N : News h₀ L s.heap need) (hf : s.heap.get? f = some (PySem.W.kla_obj (Str.ofString "<lambda>") qual (lamA ap) (lamB p1 p2 p3) lamC cl pm c' ctv)) (hcr : s.heap.CodeRec (.ref c') qual) (hnl : s.heap.NoLimit) (ht : IsTup s.heap t (Value.int k u :: its).toArray) :
    wpAny (model prog w) A (call (.ref f) [.ref t]) (KskEnd h₀ L m need k s) E s := by
  refine wpAny_call (PySem.W.kla_callFunE (by omega) hf rfl rfl rfl rfl hcr ?_)
  have eb : bindArgs (PySem.W.kla_fn (Str.ofString "<lambda>") qual (lamA ap) (lamB p1 p2 p3) lamC cl pm (.ref c') ctv) { pos := [.ref t], kw := [] } = pure [(Str.ofString "pair", .ref t)] := by rfl
  rw [eb]
  refine wpAny_pure ?_
  refine wpAny_newFunctionEnv (fun x hx => ?_) (fun x hx => ?_) fun h' ns sb => ?_
  · rcases List.mem_singleton.mp hx with rfl
    intro z; cases z
  · rcases List.mem_singleton.mp hx with rfl
    rfl
  have old : ∀ (b : Addr) (o : Obj), s.heap.get? b = some o → h'.get? b = some o := fun b o e => by
    obtain ⟨e1, e2⟩ := get_push (ob := { cls := Value.type "frame", data := Data.dict #[] }) e
    rw [sb.2 b e2]
    exact e1
  refine ⟨?_, PySem.W.kla_codeExpr ?_⟩
  · obtain ⟨mc, n1, n2⟩ := hnl
    refine ⟨mc, ?_, n2⟩
    obtain ⟨o, es, ep, q1, q2⟩ := n1
    exact ⟨o, es, ep, old _ _ q1, q2⟩
  · refine Subscript_ (wpAny_Name (wpAny_loadName_local rfl rfl ns (v := .ref t) rfl ?_) (by decide +kernel))
    refine wpAny_Constant_int ?_
    have ht' : IsTup h' t (Value.int k u :: its).toArray := by
      obtain ⟨o, q1, q2⟩ := ht
      exact ⟨o, old _ _ q1, q2⟩
    refine item_tupleL (j := 0) (x := Value.int k u) ht' (by decide) (by decide) (by simp [seqIndex?]) rfl ?_
    exact ⟨h', _, u, rfl, rfl, F.kept old, fun p hp => ⟨old _ _ (N p hp).1, (N p hp).2⟩⟩
/-- what stands beside its frame stays, when a machine has run that keeps all but new things -/
theorem kept_all {base : Heap} {L : Addr} {h h' : Heap} {m m' : Str → Option Value} (F : PyProof.Rows.Fr base L h m) (F' : PyProof.Rows.Fr base L h' m') (N : ∀ p ∈ allNews base h L, h'.get? p.1 = some p.2) {b : Addr} {o : Obj} (hb : b ≠ L) (e : h.get? b = some o) : h'.get? b = some o := by
  cases q : base.get? b with
  | some u =>
    have e2 := F.keep b u q
    rw [e] at e2
    cases e2
    exact F'.keep b _ q
  | none => exact N (b, o) (mem_allNews hb q e)
def KOut (kz : List Int) (xs ys : List V) : Prop := ∃ ps : List (Int × V), ps.Perm (kz.zip xs) ∧ ys = ps.map (·.2) ∧ ps.Pairwise (fun p q => p.1 ≤ q.1) ∧ ∀ c : Int, ps.filter (fun p => p.1 == c) = (kz.zip xs).filter (fun p => p.1 == c)
def toV : Value → V
  | .ref a => .ref a
  | _ => .non
theorem toV_map : ∀ {xs : List V} {vs : List Value}, Vals xs vs → (∀ x ∈ xs, ∃ t, x = V.ref t) → vs.map toV = xs ∧ ∀ v ∈ vs, ∃ t, v = Value.ref t
  | _, _, .nil, _ => ⟨rfl, fun v hv => by cases hv⟩
  | _, _, .cons h r, hx => by
    obtain ⟨t, e⟩ := hx _ List.mem_cons_self
    subst e
    obtain ⟨e1, e2⟩ := toV_map r fun x hx' => hx x (List.mem_cons_of_mem _ hx')
    have h' : _ = Value.ref t := h
    subst h'
    refine ⟨by rw [List.map_cons, e1]; rfl, fun v hv => ?_⟩
    rcases List.mem_cons.mp hv with rfl | hv
    · exact ⟨t, rfl⟩
    · exact e2 v hv
theorem vals_toV : ∀ {vs : List Value}, (∀ v ∈ vs, ∃ t, v = Value.ref t) → Vals (vs.map toV) vs
  | [], _ => .nil
  | v :: vs, h => by
    obtain ⟨t, e⟩ := h v List.mem_cons_self
    subst e
    exact .cons (show L2.RelV (V.ref t) (Value.ref t) from rfl) (vals_toV fun v hv => h v (List.mem_cons_of_mem _ hv))
theorem filter_map_fst {α β γ : Type} (g : β → γ) (p : α → Bool) : ∀ l : List (α × β), (l.map fun x => (x.1, g x.2)).filter (fun x => p x.1) = (l.filter fun x => p x.1).map fun x => (x.1, g x.2)
  | [] => rfl
  | x :: l => by
    rw [List.map_cons, List.filter_cons, List.filter_cons, filter_map_fst g p l]
    cases p x.1 <;> simp
theorem zip_map2 {α β γ : Type} (g : β → γ) : ∀ (l : List α) (r : List β), l.zip (r.map g) = (l.zip r).map fun x => (x.1, g x.2)
  | [], _ => rfl
  | _ :: _, [] => rfl
  | a :: l, b :: r => by
    show (a, g b) :: l.zip (r.map g) = _
    rw [zip_map2 g l r]
    rfl
theorem kout_of {kz : List Int} {xs : List V} {vs out : List Value} (hv : Vals xs vs) (hx : ∀ x ∈ xs, ∃ t, x = V.ref t) (h : KskOutSt false kz vs out) : KOut kz xs (out.map toV) ∧ Vals (out.map toV) out ∧ out.length ≤ vs.length := by
  obtain ⟨e1, e2⟩ := toV_map hv hx
  obtain ⟨ps, q1, q2, q3, q4⟩ := h
  have hz : kz.zip xs = (kz.zip vs).map fun x => (x.1, toV x.2) := by rw [← e1, zip_map2]
  refine ⟨⟨ps.map fun x => (x.1, toV x.2), ?_, ?_, ?_, fun c => ?_⟩, vals_toV fun v hv => ?_, ?_⟩
  · rw [hz]; exact q1.map _
  · rw [q2, List.map_map, List.map_map]; rfl
  · rw [List.pairwise_map]
    exact q3.imp fun h => by simpa using h
  · rw [hz, filter_map_fst toV (fun i => i == c), filter_map_fst toV (fun i => i == c), q4 c]
  · rw [q2] at hv
    obtain ⟨p, hp, rfl⟩ := List.mem_map.mp hv
    exact e2 _ (List.of_mem_zip (q1.mem_iff.mp hp)).2
  · rw [q2, List.length_map, q1.length_eq, List.length_zip]
    exact Nat.min_le_right _ _
def tSortLam (K : PySem.W.Frag) (T : List (Addr × Str)) (te : TE) : TE := fun σ H Q => te σ H fun x H1 => ∃ (a : Addr) (xs : List V) (kz : List Int), x = .ref a ∧ SqL K H1 a xs ∧ kz.length = xs.length ∧ Tabs T H1 ∧
  (∀ (i : Nat) (v : V) (k : Int), xs[i]? = some v → kz[i]? = some k → ∃ t its, v = .ref t ∧ SqT K H1 t (.int k :: its)) ∧
  ∀ ys H2 p, LamX.ExtN H1 H2 → Tabs T H2 → H2 p = Option.none → KOut kz xs ys → Q (.ref p) (upd H2 p (.lst ys))
theorem SqT_extN {K : PySem.W.Frag} {H H' : Hp} {a : Addr} {xs : List V} (e : LamX.ExtN H H') (h : SqT K H a xs) : SqT K H' a xs := by
  rcases h with (h | ⟨o, h⟩) | h
  · exact .inl (.inl (e _ _ h fun ps z => by cases z))
  · exact .inl (.inr ⟨o, e _ _ h fun ps z => by cases z⟩)
  · exact .inr h
theorem SqL_extN {K : PySem.W.Frag} {H H' : Hp} {a : Addr} {xs : List V} (e : LamX.ExtN H H') (h : SqL K H a xs) : SqL K H' a xs := by
  rcases h with (h | ⟨o, h⟩) | h
  · exact .inl (.inl (e _ _ h fun ps z => by cases z))
  · exact .inl (.inr ⟨o, e _ _ h fun ps z => by cases z⟩)
  · exact .inr h
theorem paired_len {α β : Type} {R : α → β → Prop} : ∀ {l : List α} {r : List β}, Paired R l r → l.length = r.length
  | _, _, .nil => rfl
  | _, _, .cons _ r => congrArg (· + 1) (paired_len r)
theorem paired_got {α β : Type} {R : α → β → Prop} : ∀ {l : List α} {r : List β} {i : Nat} {y : β}, Paired R l r → r[i]? = some y → ∃ x, l[i]? = some x ∧ R x y
  | _, _, _, _, .nil, e => by simp at e
  | _, _, 0, _, .cons h _, e => by
    have e' := Option.some.inj e
    subst e'
    exact ⟨_, rfl, h⟩
  | _, _, i + 1, _, .cons _ r, e => by
    obtain ⟨x, h1, h2⟩ := paired_got (i := i) r e
    exact ⟨x, h1, h2⟩
theorem loc_ne {h : Heap} {L b : Addr} {m : Str → Option Value} {o : Obj} (n : h.Ns L m) (e : h.get? b = some o) (no : ∀ es ep, o.data ≠ Data.dict es ep) : b ≠ L := by
  rintro rfl
  obtain ⟨u, es, ep, q1, q2, _⟩ := n
  rw [e] at q1
  cases q1
  exact no es ep q2
theorem codeO_at {P : Program} {w : World} {H : Hp} {h : Heap} {c : Addr} {q : Str} (z : ObjOk P w H h c (LamX.CodeO c q)) : ∃ o vs t, h.get? c = some o ∧ o.data = Data.fields vs ∧ vs[1]? = some (Value.str q t) := by
  unfold LamX.CodeO at z
  simp only [ObjOk] at z
  exact z.1
theorem ns_ext {h h' : Heap} {L : Addr} {m m2 : Str → Option Value} (a : h.Ns L m) (b : h'.Ns L m) (c : h.Ns L m2) : h'.Ns L m2 := by
  have e : m2 = m := by
    obtain ⟨o, es, ep, a1, a2, a3, a4⟩ := a
    obtain ⟨o', es', ep', c1, c2, c3, c4⟩ := c
    rw [a1] at c1
    cases c1
    rw [a2] at c2
    cases c2
    funext x
    rw [← c4 x, a4 x]
  rw [e]
  exact b
theorem pe_sortLam {X : Cx} {T : List (Addr × Str)} {c P : Addr} {e : Expr} {te : TE} {ap p1 p2 p3 lpos kpos np pos : Pos} (hr : X.A.depth + 1 < recursionLimit) (hg : Gl X "sorted") (hm : X.mg "sorted" = none) (p : PE X e te)
    (tb : LamX.TabB X.base X.mg c P) (hcode : X.env.code = .ref c) (hT : (P, X.env.qual ++ Str.ofString "<lambda>") ∈ T) (hT2 : ∀ p ∈ T, p.1 = P → p.2 = X.env.qual ++ Str.ofString "<lambda>")
    (he : starEach [e] X.env = (false, eval e X.env) :: starEach [] X.env := by rfl) (h1 : backTo pos (starEach [e] X.env) = (false, eval e X.env) :: backTo pos (starEach [] X.env) := by rfl)
    (h2 : ((backTo pos (starEach [e] X.env)).any fun x => x.1) = false := by rfl) :
    PE X (.Call (.Name "sorted" np) [e] [⟨some "key", .Lambda (lamA ap) (lamB p1 p2 p3) lamC lpos, kpos⟩] pos) (tSortLam X.K T te) := by
  constructor
  intro pins s σ H Q I q
  refine wpAny_Call_Name_kw (ld_blt I hg hm (u := .builtin "sorted") (by decide +kernel) ?_)
  refine callWith_kw ?_ h1 h2
  refine wpAny_mono ((pa_cons p pa_nil he).run pos pins s σ H (fun vs H1 => match vs with
      | [x] => ∃ (a : Addr) (xs : List V) (kz : List Int), x = .ref a ∧ SqL X.K H1 a xs ∧ kz.length = xs.length ∧ Tabs T H1 ∧
        (∀ (i : Nat) (v : V) (k : Int), xs[i]? = some v → kz[i]? = some k → ∃ t its, v = .ref t ∧ SqT X.K H1 t (.int k :: its)) ∧
        ∀ ys H2 p, LamX.ExtN H1 H2 → Tabs T H2 → H2 p = Option.none → KOut kz xs ys → Q (.ref p) (upd H2 p (.lst ys))
      | _ => False) I q) ?_ fun _ _ z => z
  · rintro us s1 ⟨vs, H1, I1, rv, q1⟩
    obtain ⟨x, rfl, a, xs, kz, rfl, hs, hl, ht, hk, fin⟩ : ∃ x, vs = [x] ∧ ∃ (a : Addr) (xs : List V) (kz : List Int), x = .ref a ∧ SqL X.K H1 a xs ∧ kz.length = xs.length ∧ Tabs T H1 ∧
        (∀ (i : Nat) (v : V) (k : Int), xs[i]? = some v → kz[i]? = some k → ∃ t its, v = .ref t ∧ SqT X.K H1 t (.int k :: its)) ∧
        ∀ ys H2 p, LamX.ExtN H1 H2 → Tabs T H2 → H2 p = Option.none → KOut kz xs ys → Q (.ref p) (upd H2 p (.lst ys)) := by
      match vs, q1 with
      | [x], q1 => exact ⟨x, rfl, q1⟩
    obtain ⟨u, us', rfl, ru, rn⟩ : ∃ u us', us = u :: us' ∧ L2.RelV (.ref a) u ∧ Vals [] us' := by
      cases rv with
      | cons h r => exact ⟨_, _, rfl, h, r⟩
    cases rn
    have eu : u = Value.ref a := ru
    subst eu
    refine kwAll_cons ?_
    refine LamX.lam_make2 I1 tb hcode hT hT2 ht rfl (fun y hy z => ?_) fun f c' pm ctv H2 s2 I2 hx ht2 hf hf0 hfs hcd => ?_
    · rcases List.mem_singleton.mp hy with rfl
      cases z
    refine kwAll_nil ?_
    show wpAny _ _ (call (Value.builtin "sorted") [Value.ref a] [(Str.ofString "key", Value.ref f)]) _ _ _
    obtain ⟨m, F⟩ := I2.fr
    obtain ⟨its, vv, pl, hz⟩ := I2.list (SqL_extN hx hs)
    have hlen : its.length = xs.length := (paired_len vv).symm
    have hxr : ∀ x ∈ xs, ∃ t, x = V.ref t := fun x hx' => by
      obtain ⟨i, hi, e⟩ := List.getElem_of_mem hx'
      obtain ⟨k, e2⟩ := some_at (xs := kz) (i := i) (by rw [hl]; exact hi)
      obtain ⟨t, its', e3, _⟩ := hk i x k (by rw [List.getElem?_eq_getElem hi, e]) e2
      exact ⟨t, e3⟩
    refine ksk_sortedSt (b := false) (kz := kz) (f := .ref f) (vs := its) F (news_all (g := X.base) (L := X.env.locals)) ?_ (by rw [hl, hlen]) (by rw [hlen]; exact hz) (ksk_s1 _ _) (fun _ => ksk_l1 _ _) (fun _ => ksk_t1 _ _) ?_ ?_
    · obtain ⟨o, n, g1, g2, _, g3⟩ := pl
      exact ⟨o, g1, g2, n, g3⟩
    · intro i v k hv hkz h tk own Fh Nh
      obtain ⟨x, hx1, rx⟩ := paired_got vv hv
      obtain ⟨t, its', e3, st⟩ := hk i x k hx1 hkz
      subst e3
      have ev : v = Value.ref t := rx
      subst ev
      obtain ⟨tits, tv, tt, _⟩ := I2.tuple (SqT_extN hx st)
      have kp : ∀ {b : Addr} {o : Obj}, b ≠ X.env.locals → s2.heap.get? b = some o → h.get? b = some o := fun hb e => kept_all F Fh (fun p hp => (Nh p (List.mem_append_left _ hp)).1) hb e
      cases tv with
      | cons ri rest =>
        obtain ⟨u, eu⟩ := ri
        subst eu
        obtain ⟨to, t1, t2, tn, t3⟩ := tt
        obtain ⟨co, cvs, ct, c1, c2, c3⟩ := codeO_at (I2.hok _ _ hcd)
        have hfl := kp (loc_ne F.ns hf (fun es ep z => by cases z)) hf
        refine lam_turn (by exact hr) Fh Nh hfl ⟨c', co, cvs, ct, rfl, kp (loc_ne F.ns c1 (fun es ep z => by rw [c2] at z; cases z)) c1, c2, c3⟩ ?_ ⟨to, kp (loc_ne F.ns t1 (fun es ep z => by rw [t3] at z; cases z)) t1, t2, tn, t3⟩
        obtain ⟨mc, ⟨no, es, ep, n1, n2⟩, n3⟩ := I2.ok.mod.nolimit
        exact ⟨mc, ⟨no, es, ep, Fh.keep _ _ n1, n2⟩, n3⟩
    · intro D h' tk out cnt Fh Nh hD ho
      obtain ⟨o1, o2, o3⟩ := kout_of vv hxr ho
      have kp : ∀ {b : Addr} {o : Obj}, b ≠ X.env.locals → s2.heap.get? b = some o → h'.get? b = some o := fun hb e => kept_all F Fh (fun p hp => (Nh p (List.mem_cons_of_mem _ hp)).1) hb e
      obtain ⟨d1, d2, d3⟩ := Nh _ List.mem_cons_self
      have dnew : ∀ {b : Addr} {o : Obj}, s2.heap.get? b = some o → b ≠ D := by
        rintro b o e rfl
        exact absurd (hD _ (mem_allNews d2 d3 e)) (Nat.lt_irrefl _)
      have hD0 : H2 D = Option.none := by
        cases q : H2 D with
        | none => rfl
        | some o =>
          obtain ⟨u, hu⟩ := objOk_get (I2.hok _ _ q)
          exact absurd rfl (dnew hu)
      obtain ⟨lo, les, lep, l1, l2⟩ := F.ns
      obtain ⟨lo', les', lep', l1', l2'⟩ := Fh.ns
      refine ⟨.ref D, upd H2 D (.lst (out.toList.map toV)), ?_, rfl, fin _ H2 D hx ht2 hD0 o1⟩
      refine I2.step (ch := []) (fun b hb => by cases hb) (fun b o hb _ _ e _ => kp hb e) (fun b o hb _ _ e _ => ⟨o.slots, kp hb e⟩) (fun b o _ e hb => by rw [upd_ne (dnew e)]; exact hb)
        (fun b o _ e => ?_) (fun b xs e => by rw [upd_ne (ne_of_none e hD0)]; exact e) (fun b o u e => by rw [upd_ne (ne_of_none e hD0)]; exact e) (fun b ps e => ⟨#[], by rw [upd_ne (ne_of_none e hD0)]; simpa using e⟩) (fun m2 hm2 => ?_) (fun b o e => ?_) I2.bare
      · by_cases hb : b = X.env.locals
        · subst hb; exact ⟨lo', l1'⟩
        · exact ⟨o, kp hb e⟩
      · exact ns_ext ⟨lo, les, lep, l1, l2⟩ ⟨lo', les', lep', l1', l2'⟩ hm2
      · by_cases hb : b = D
        · subst hb
          rw [upd_same] at e
          cases e
          simp only [ObjOk]
          refine ⟨?_, out.toList, cnt, o2, by rw [d1]⟩
          rw [List.length_map]
          exact Nat.le_trans o3 (by rw [hlen]; exact hz)
        · rw [upd_ne hb] at e
          refine (I2.hok _ _ e).stay (fun c u hc hu => kp ?_ hu) (fun c hc => by rw [upd_ne (ne_of_none hc hD0)]; exact hc) (fun c xs hc => by rw [upd_ne (ne_of_none hc hD0)]; exact hc)
          rintro rfl
          have hL := I2.free
          rcases hc with hc | hc
          · rw [hc, e] at hL; cases hL
          · rw [hc] at hL; cases hL
end Pd

namespace Pd
open PySem PySem.Spec PyProof.Rows L2
/-! ### stable sort by a whole number -/
def insK {α : Type} (p : Int × α) : List (Int × α) → List (Int × α)
  | [] => [p]
  | q :: r => if p.1 ≤ q.1 then p :: q :: r else q :: insK p r
def sortK {α : Type} : List (Int × α) → List (Int × α)
  | [] => []
  | p :: r => insK p (sortK r)
theorem insK_filter {α : Type} (p : Int × α) (c : Int) : ∀ l : List (Int × α), (insK p l).filter (fun x => x.1 == c) = (p :: l).filter (fun x => x.1 == c)
  | [] => rfl
  | q :: r => by
    unfold insK
    split
    · rfl
    · rename_i hp
      rw [List.filter_cons, insK_filter p c r, List.filter_cons, List.filter_cons, List.filter_cons]
      by_cases h1 : (q.1 == c) = true
      · by_cases h2 : (p.1 == c) = true
        · have e1 := eq_of_beq h1
          have e2 := eq_of_beq h2
          omega
        · rw [if_pos h1, if_neg h2, if_neg h2, if_pos h1]
      · rw [if_neg h1, if_neg h1]
theorem sortK_filter {α : Type} (c : Int) : ∀ l : List (Int × α), (sortK l).filter (fun x => x.1 == c) = l.filter (fun x => x.1 == c)
  | [] => rfl
  | p :: r => by
    unfold sortK
    rw [insK_filter, List.filter_cons, sortK_filter c r, List.filter_cons]
theorem insK_mem {α : Type} {p x : Int × α} : ∀ {l : List (Int × α)}, x ∈ insK p l → x = p ∨ x ∈ l
  | [], h => .inl (List.mem_singleton.mp h)
  | q :: r, h => by
    unfold insK at h
    split at h
    · rcases List.mem_cons.mp h with h | h
      · exact .inl h
      · exact .inr h
    · rcases List.mem_cons.mp h with h | h
      · exact .inr (h ▸ List.mem_cons_self)
      · rcases insK_mem h with h | h
        · exact .inl h
        · exact .inr (List.mem_cons_of_mem _ h)
theorem insK_pw {α : Type} (p : Int × α) : ∀ {l : List (Int × α)}, l.Pairwise (fun x y => x.1 ≤ y.1) → (insK p l).Pairwise (fun x y => x.1 ≤ y.1)
  | [], _ => by unfold insK; simp
  | q :: r, h => by
    unfold insK
    split
    · rename_i hp
      refine List.pairwise_cons.mpr ⟨fun x hx => ?_, h⟩
      rcases List.mem_cons.mp hx with rfl | hx
      · exact hp
      · exact Int.le_trans hp ((List.pairwise_cons.mp h).1 x hx)
    · rename_i hp
      refine List.pairwise_cons.mpr ⟨fun x hx => ?_, insK_pw p (List.pairwise_cons.mp h).2⟩
      rcases insK_mem hx with rfl | hx
      · omega
      · exact (List.pairwise_cons.mp h).1 x hx
theorem sortK_pw {α : Type} : ∀ l : List (Int × α), (sortK l).Pairwise (fun x y => x.1 ≤ y.1)
  | [] => List.Pairwise.nil
  | p :: r => insK_pw p (sortK_pw r)
theorem insK_perm {α : Type} (p : Int × α) : ∀ l : List (Int × α), (insK p l).Perm (p :: l)
  | [] => List.Perm.refl _
  | q :: r => by
    unfold insK
    split
    · exact List.Perm.refl _
    · exact ((insK_perm p r).cons q).trans (List.Perm.swap _ _ _)
theorem sortK_perm {α : Type} : ∀ l : List (Int × α), (sortK l).Perm l
  | [] => List.Perm.refl _
  | p :: r => (insK_perm p _).trans ((sortK_perm r).cons p)
theorem sortK_unique {α : Type} : ∀ {l1 l2 : List (Int × α)}, l1.Pairwise (fun x y => x.1 ≤ y.1) → l2.Pairwise (fun x y => x.1 ≤ y.1) → (∀ c : Int, l1.filter (fun x => x.1 == c) = l2.filter (fun x => x.1 == c)) → l1 = l2
  | [], [], _, _, _ => rfl
  | [], q :: r, _, _, h => by
    have z := h q.1
    simp at z
  | p :: t, [], _, _, h => by
    have z := h p.1
    simp at z
  | p :: t, q :: r, h1, h2, h => by
    have a1 := List.pairwise_cons.mp h1
    have a2 := List.pairwise_cons.mp h2
    have hle : ∀ (p q : Int × α) (t r : List (Int × α)), (∀ x ∈ r, q.1 ≤ x.1) → (p :: t).filter (fun x => x.1 == p.1) = (q :: r).filter (fun x => x.1 == p.1) → q.1 ≤ p.1 := by
      intro p q t r hr e
      have m : p ∈ (q :: r).filter (fun x => x.1 == p.1) := by
        rw [← e]
        exact List.mem_filter.mpr ⟨List.mem_cons_self, by simp⟩
      rcases List.mem_cons.mp (List.mem_filter.mp m).1 with rfl | m
      · exact Int.le_refl _
      · exact hr _ m
    have e1 := hle p q t r a2.1 (h p.1)
    have e2 := hle q p r t a1.1 (h q.1).symm
    have e : p.1 = q.1 := Int.le_antisymm e2 e1
    have hp := h p.1
    rw [List.filter_cons, List.filter_cons, if_pos (by simp), if_pos (by rw [e]; simp)] at hp
    have epq : p = q := (List.cons.inj hp).1
    subst epq
    have ih : t = r := sortK_unique a1.2 a2.2 fun c => by
      have z := h c
      rw [List.filter_cons, List.filter_cons] at z
      split at z
      · exact (List.cons.inj z).2
      · exact z
    rw [ih]
theorem kout_sort {kz : List Int} {xs ys : List V} (h : KOut kz xs ys) : ys = (sortK (kz.zip xs)).map (·.2) := by
  obtain ⟨ps, q1, q2, q3, q4⟩ := h
  have e : ps = sortK (kz.zip xs) := sortK_unique q3 (sortK_pw _) fun c => by rw [q4 c, sortK_filter]
  rw [q2, e]
section
variable {K : PySem.W.Frag}
/-- rows of keys: values, data -/
inductive Both (K : PySem.W.Frag) (H : Hp) : List (Int × V) → List (Int × D) → Prop
  | nil : Both K H [] []
  | cons {k : Int} {v : V} {d : D} {l : List (Int × V)} {r : List (Int × D)} : Rp K H v d → Both K H l r → Both K H ((k, v) :: l) ((k, d) :: r)
theorem both_zip {H : Hp} : ∀ {ks : List Int} {vs : List V} {ds : List D}, RpAll K H vs ds → Both K H (ks.zip vs) (ks.zip ds)
  | [], _, _, _ => .nil
  | _ :: _, _, _, .nil => .nil
  | _ :: _, _, _, .cons h r => .cons h (both_zip r)
theorem both_ins {H : Hp} {k : Int} {v : V} {d : D} (h : Rp K H v d) : ∀ {l : List (Int × V)} {r : List (Int × D)}, Both K H l r → Both K H (insK (k, v) l) (insK (k, d) r)
  | _, _, .nil => .cons h .nil
  | _, _, .cons (k := j) h2 b => by
    show Both K H (if k ≤ j then _ else _) (if k ≤ j then _ else _)
    split
    · exact .cons h (.cons h2 b)
    · exact .cons h2 (both_ins h b)
theorem both_sort {H : Hp} : ∀ {l : List (Int × V)} {r : List (Int × D)}, Both K H l r → Both K H (sortK l) (sortK r)
  | _, _, .nil => .nil
  | _, _, .cons h b => both_ins h (both_sort b)
theorem both_all {H : Hp} : ∀ {l : List (Int × V)} {r : List (Int × D)}, Both K H l r → RpAll K H (l.map (·.2)) (r.map (·.2))
  | _, _, .nil => .nil
  | _, _, .cons h b => .cons h (both_all b)
end
/-- the first parts of tuples, whole numbers -/
def firsts : List D → Option (List Int)
  | [] => some []
  | .tuple (.int k :: _) :: r => (firsts r).map (k :: ·)
  | _ :: _ => none
def dSortK : D → Option D
  | .list ds => (firsts ds).map fun ks => .list ((sortK (ks.zip ds)).map (·.2))
  | _ => none
theorem firsts_len : ∀ {ds : List D} {ks : List Int}, firsts ds = some ks → ks.length = ds.length
  | [], _, h => by cases h; rfl
  | d :: ds, ks, h => by
    unfold firsts at h
    split at h
    · cases ‹_ = []›
    · rename_i k r r' e
      cases e
      obtain ⟨m, e1, rfl⟩ := Option.map_eq_some_iff.mp h
      rw [List.length_cons, firsts_len e1]; rfl
    · cases h
theorem firsts_at : ∀ {ds : List D} {ks : List Int} {i : Nat} {d : D} {k : Int}, firsts ds = some ks → ds[i]? = some d → ks[i]? = some k → ∃ r, d = .tuple (.int k :: r)
  | [], _, _, _, _, _, h, _ => by simp at h
  | e :: ds, ks, i, d, k, h, hd, hk => by
    unfold firsts at h
    split at h
    · cases ‹_ = []›
    · rename_i k' r r' e'
      cases e'
      obtain ⟨m, e1, rfl⟩ := Option.map_eq_some_iff.mp h
      cases i with
      | zero =>
        have a1 := Option.some.inj hd
        have a2 := Option.some.inj hk
        subst a1 a2
        exact ⟨_, rfl⟩
      | succ i => exact firsts_at e1 (by simpa using hd) (by simpa using hk)
    · cases h
section
variable {ι : Type} {T : List (Addr × Str)} {K : PySem.W.Frag} {X : ι → Cx}
theorem xd_sortLam {c P : Addr} {e : Expr} {a : M D} {ap p1 p2 p3 lpos kpos np pos : Pos} (ha : XD X T K e a) (hr : ∀ i0, (X i0).A.depth + 1 < recursionLimit) (hm : ∀ i0, (X i0).mg "sorted" = none)
    (tb : ∀ i0, LamX.TabB (X i0).base (X i0).mg c P) (hcode : ∀ i0, (X i0).env.code = .ref c) (hT : ∀ i0, (P, (X i0).env.qual ++ Str.ofString "<lambda>") ∈ T) (hT2 : ∀ i0, ∀ p ∈ T, p.1 = P → p.2 = (X i0).env.qual ++ Str.ofString "<lambda>")
    (hg : ∀ i0, Gl (X i0) "sorted" := by intro _; rfl) (he : ∀ i0, starEach [e] (X i0).env = (false, eval e (X i0).env) :: starEach [] (X i0).env := by intro _; rfl) (h1 : ∀ i0, backTo pos (starEach [e] (X i0).env) = (false, eval e (X i0).env) :: backTo pos (starEach [] (X i0).env) := by intro _; rfl)
    (h2 : ∀ i0, ((backTo pos (starEach [e] (X i0).env)).any fun x => x.1) = false := by intro _; rfl) (k : ∀ i0, (X i0).K = K := by intro _; rfl) :
    XD X T K (.Call (.Name "sorted" np) [e] [⟨some "key", .Lambda (lamA ap) (lamB p1 p2 p3) lamC lpos, kpos⟩] pos) (m1 dSortK a) := by
  obtain ⟨t, p, l⟩ := ha
  refine ⟨tSortLam K T t, fun i0 => by have e := k i0; subst e; exact pe_sortLam (hr i0) (hg i0) (hm i0) (p i0) (tb i0) (hcode i0) (hT i0) (hT2 i0) (he i0) (h1 i0) (h2 i0), ?_⟩
  intro F0 H0 σ F H ρ d S h Q q
  unfold m1 at h
  obtain ⟨y, e1, h⟩ := Option.bind_eq_some_iff.mp h
  refine l F0 H0 σ F H ρ y S e1 _ fun v F1 H1 g1 r1 => ?_
  cases y <;> simp only [dSortK] at h <;> try (cases h; done)
  rename_i ds
  obtain ⟨ks, e2, h⟩ := Option.map_eq_some_iff.mp h
  subst h
  cases r1 with
  | lst hs r =>
    rename_i a vs
    refine ⟨a, vs, ks, rfl, g1.s.same.seq hs, by rw [firsts_len e2, r.length], g1.s.tabs, fun i v k hv hk => ?_, fun ys H2 b hx ht hb ho => ?_⟩
    · obtain ⟨d, hd, rd⟩ := r.get hv
      obtain ⟨rr, e3⟩ := firsts_at e2 hd hk
      subst e3
      cases rd with
      | tup hs2 ra =>
        cases ra with
        | cons h0 _ =>
          cases h0
          exact ⟨_, _, rfl, SqT_same g1.s.same hs2⟩
    · have e3 := kout_sort ho
      subst e3
      have k2 : Keep T H1 H2 := ⟨hx, fun _ => ht⟩
      have s2 : Sub T F1 H2 := g1.s.keep k2
      have g2 : Grow T F1 H1 F1 H2 := ⟨Same.refl _, k2, s2, fun b o e n => by rw [n] at e; cases e⟩
      have g3 : Grow T F1 H2 _ _ := Grow.new (T := T) (o := .lst ((sortK (ks.zip vs)).map (·.2))) s2 hb
      exact q _ _ _ ((g1.trans g2).trans g3) (.lst (SqL.of upd_same) (both_all (both_sort (both_zip (r.mono g3.f)))))
end
end Pd

namespace Pd
open PySem PySem.Spec PyProof.Rows L2
/-! ### dicts -/
def keyOf : D → Option Key
  | .int i => some (.inl i)
  | .str x => some (.inr x)
  | _ => none
theorem keyOf_kD (k : Key) : keyOf (kD k) = some k := by cases k <;> rfl
theorem keyOf_eq {d : D} {k : Key} (h : keyOf d = some k) : d = kD k := by
  cases d <;> simp only [keyOf] at h <;> cases h <;> rfl
def dGetV (ds : List (D × D)) (k : Key) : Option D := (ds.find? fun p => decide (keyOf p.1 = some k)).map (·.2)
def dInK : D → D → Option D := fun x y => match y with
  | .dict ds => (keyOf x).map fun k => .bool (dGetV ds k).isSome
  | _ => none
def dNotInK : D → D → Option D := fun x y => match y with
  | .dict ds => (keyOf x).map fun k => .bool (!(dGetV ds k).isSome)
  | _ => none
def dDGet : D → D → Option D := fun x y => match x with
  | .dict ds => (keyOf y).bind fun k => dGetV ds k
  | _ => none
def putD (ks : List (Key × D)) (k : Key) (d : D) : List (Key × D) := if (ks.any fun p => decide (p.1 = k)) = true then ks.map fun p => if p.1 = k then (p.1, d) else p else ks ++ [(k, d)]
def dictD (ks : List (Key × D)) : D := .dict (ks.map fun p => (kD p.1, p.2))
section
variable {K : PySem.W.Frag}
theorem rp_key {H : Hp} {v : V} {d : D} {k : Key} (r : Rp K H v d) (h : keyOf d = some k) : v = kV k := by
  cases r <;> simp only [keyOf] at h <;> cases h <;> rfl
inductive RpK (K : PySem.W.Frag) (H : Hp) : List (Key × V) → List (Key × D) → Prop
  | nil : RpK K H [] []
  | cons {k : Key} {v : V} {d : D} {l : List (Key × V)} {r : List (Key × D)} : Rp K H v d → RpK K H l r → RpK K H ((k, v) :: l) ((k, d) :: r)
theorem RpK.mono {H H' : Hp} (e : Same H H') : ∀ {l : List (Key × V)} {r : List (Key × D)}, RpK K H l r → RpK K H' l r
  | _, _, .nil => .nil
  | _, _, .cons h r => .cons (h.mono e) (r.mono e)
theorem RpK.kv {H : Hp} : ∀ {l : List (Key × V)} {r : List (Key × D)}, RpK K H l r → RpKv K H l (r.map fun p => (kD p.1, p.2))
  | _, _, .nil => .nil
  | _, _, .cons h r => .cons h r.kv
theorem RpK.any {H : Hp} (k : Key) : ∀ {l : List (Key × V)} {r : List (Key × D)}, RpK K H l r → (l.any fun p => decide (p.1 = k)) = r.any fun p => decide (p.1 = k)
  | _, _, .nil => rfl
  | _, _, .cons _ r => by rw [List.any_cons, List.any_cons, r.any]
theorem RpK.map {H : Hp} {k : Key} {v : V} {d : D} (h : Rp K H v d) : ∀ {l : List (Key × V)} {r : List (Key × D)}, RpK K H l r → RpK K H (l.map fun p => if p.1 = k then (p.1, v) else p) (r.map fun p => if p.1 = k then (p.1, d) else p)
  | _, _, .nil => .nil
  | _, _, .cons (k := j) h2 r => by
    rw [List.map_cons, List.map_cons]
    by_cases e : j = k
    · rw [if_pos e, if_pos e]
      exact .cons h (r.map h)
    · rw [if_neg e, if_neg e]
      exact .cons h2 (r.map h)
theorem RpK.app {H : Hp} {k : Key} {v : V} {d : D} (h : Rp K H v d) : ∀ {l : List (Key × V)} {r : List (Key × D)}, RpK K H l r → RpK K H (l ++ [(k, v)]) (r ++ [(k, d)])
  | _, _, .nil => .cons h .nil
  | _, _, .cons h2 r => .cons h2 (r.app h)
theorem RpK.put {H : Hp} {k : Key} {v : V} {d : D} {l : List (Key × V)} {r : List (Key × D)} (b : RpK K H l r) (h : Rp K H v d) : RpK K H (putK l k v) (putD r k d) := by
  unfold putK putD
  rw [b.any k]
  split
  · exact b.map h
  · exact b.app h
theorem RpK.len {H : Hp} : ∀ {l : List (Key × V)} {r : List (Key × D)}, RpK K H l r → l.length = r.length
  | _, _, .nil => rfl
  | _, _, .cons _ r => congrArg (· + 1) r.len
theorem putD_len {ks : List (Key × D)} {k : Key} {d : D} : (putD ks k d).length ≤ ks.length + 1 := by
  unfold putD
  split
  · rw [List.length_map]; omega
  · rw [List.length_append]; exact Nat.le_refl _
theorem kv_get {H : Hp} (k : Key) : ∀ {kvs : List (Key × V)} {ds : List (D × D)}, RpKv K H kvs ds → (valV kvs k = none ∧ dGetV ds k = none) ∨ ∃ v d, valV kvs k = some v ∧ dGetV ds k = some d ∧ Rp K H v d
  | _, _, .nil => .inl ⟨rfl, rfl⟩
  | _, _, .cons (k := j) (v := v) (d := d) h r => by
    unfold valV dGetV
    rw [List.find?_cons, List.find?_cons]
    by_cases e : j = k
    · subst e
      exact .inr ⟨v, d, by simp, by simp [keyOf_kD], h⟩
    · have e1 : decide (j = k) = false := decide_eq_false e
      have e2 : decide (keyOf (kD j) = some k) = false := decide_eq_false (by rw [keyOf_kD]; intro z; exact e (Option.some.inj z))
      rw [e1, e2]
      exact kv_get k r
end
section
variable {ι : Type} {T : List (Addr × Str)} {K : PySem.W.Frag} {X : ι → Cx}
theorem el_din {ty td : TE} {b : Bool} {x y : M D} (hx : EL T K ty x) (hy : EL T K td y) : EL T K (fun σ H Q => ty σ H fun y H1 => td σ H1 fun x H2 => ∃ a o, x = V.ref a ∧ DGet H2 a y o ∧ Q (V.bl (b ^^ o.isSome)) H2)
    (m2 (fun dx dy => match dy with | .dict ds => (keyOf dx).map fun k => .bool (b ^^ (dGetV ds k).isSome) | _ => none) x y) := by
  intro F0 H0 σ F H ρ d S h Q q
  unfold m2 at h
  obtain ⟨dx, e1, h⟩ := Option.bind_eq_some_iff.mp h
  obtain ⟨dy, e2, h⟩ := Option.bind_eq_some_iff.mp h
  refine hx F0 H0 σ F H ρ dx S e1 _ fun v F1 H1 g1 r1 => ?_
  refine hy F0 H0 σ F1 H1 ρ dy (S.grow g1) e2 _ fun u F2 H2 g2 r2 => ?_
  cases dy <;> simp only at h <;> try (cases h; done)
  rename_i ds
  obtain ⟨k, e3, h⟩ := Option.map_eq_some_iff.mp h
  subst h
  have ev := rp_key r1 e3
  subst ev
  cases r2 with
  | dct hd rk =>
    rename_i a kvs
    have key : (valV kvs k).isSome = (dGetV ds k).isSome := by
      rcases kv_get k rk with ⟨a1, a2⟩ | ⟨v, d, a1, a2, _⟩ <;> rw [a1, a2] <;> rfl
    refine ⟨a, valV kvs k, rfl, DGet.k (g2.s.same _ _ hd), ?_⟩
    rw [key]
    exact q _ F2 H2 (g1.trans g2) (.bl _)
theorem xd_din {i o : Expr} {x y : M D} {pos : Pos} (hu : ∀ i0, (X i0).A.units + 65 < cLine) (hx : XD X T K i x) (hy : XD X T K o y) (hm : behindInMarks .In o = false := by rfl) : XD X T K (.Compare i [.In] [o] pos) (m2 dInK x y) := by
  obtain ⟨t, p, l⟩ := hx
  obtain ⟨u, p2, l2⟩ := hy
  refine ⟨_, fun i0 => pe_cmp (pc_din (by have := hu i0; omega) (p i0) (p2 i0)) hm, ?_⟩
  have z := el_din (b := false) l l2
  simp only [Bool.false_xor] at z
  exact z
theorem xt_din {i o : Expr} {x y : M D} {pos : Pos} (hu : ∀ i0, (X i0).A.units + 65 < cLine) (hx : XD X T K i x) (hy : XD X T K o y) (hm : behindInMarks .In o = false := by rfl) : XT X T K (.Compare i [.In] [o] pos) (mB (m2 dInK x y)) := by
  obtain ⟨t, p, l⟩ := hx
  obtain ⟨u, p2, l2⟩ := hy
  refine ⟨_, fun i0 => pt_cmp (pc_din (by have := hu i0; omega) (p i0) (p2 i0)) hm, ?_⟩
  have z := el_din (b := false) l l2
  simp only [Bool.false_xor] at z
  exact tl_test z
theorem xd_dget {o i : Expr} {x y : M D} {pos : Pos} (hu : ∀ i0, (X i0).A.units + 65 < cLine) (hx : XD X T K o x) (hy : XD X T K i y) (hp : NoSl i := by intro _ _; rfl) : XD X T K (.Subscript o i pos) (m2 dDGet x y) := by
  obtain ⟨t, p, l⟩ := hx
  obtain ⟨u, p2, l2⟩ := hy
  refine ⟨_, fun i0 => pe_dget (by have := hu i0; omega) (p i0) (p2 i0) hp, ?_⟩
  intro F0 H0 σ F H ρ d S h Q q
  unfold m2 at h
  obtain ⟨dx, e1, h⟩ := Option.bind_eq_some_iff.mp h
  obtain ⟨dy, e2, h⟩ := Option.bind_eq_some_iff.mp h
  refine l F0 H0 σ F H ρ dx S e1 _ fun v F1 H1 g1 r1 => ?_
  refine l2 F0 H0 σ F1 H1 ρ dy (S.grow g1) e2 _ fun u F2 H2 g2 r2 => ?_
  cases dx <;> simp only [dDGet] at h <;> try (cases h; done)
  rename_i ds
  obtain ⟨k, e3, h⟩ := Option.bind_eq_some_iff.mp h
  have ev := rp_key r2 e3
  subst ev
  cases r1 with
  | dct hd rk =>
    rename_i a kvs
    rcases kv_get k rk with ⟨a1, a2⟩ | ⟨v, d', a1, a2, a3⟩
    · rw [a2] at h; cases h
    · rw [a2] at h; cases h
      refine ⟨a, v, rfl, ?_, q v F2 H2 (g1.trans g2) (a3.mono g2.f)⟩
      rw [← a1]
      exact DGet.k (g2.s.same _ _ (g2.f _ _ hd))
/-- {k: v for target in iter if ..} -/
def compK (f : D → Option (Option (Key × D))) : List D → List (Key × D) → Option (List (Key × D))
  | [], acc => some acc
  | x :: xs, acc => (f x).bind fun o => match o with
    | some (k, d) => compK f xs (putD acc k d)
    | none => compK f xs acc
def turnK (g : D → Fr → Option Fr) (mt : M Bool) (mk mv : M D) (ρ : Fr) (x : D) : Option (Option (Key × D)) := (g x ρ).bind fun ρ2 => (mt ρ2).bind fun b => if b = true then (mk ρ2).bind fun y => (keyOf y).bind fun k => (mv ρ2).map fun d => some (k, d) else some none
def mDc (mi : M (List D)) (vs : List Nat) (g : D → Fr → Option Fr) (mt : M Bool) (mk mv : M D) : M D := fun ρ => (mi ρ).bind fun xs => if xs.length ≤ sizeLine then (compK (turnK g mt mk mv (wipeF ρ vs)) xs []).map dictD else none
theorem compK_take {f : D → Option (Option (Key × D))} : ∀ {xs : List D} {i : Nat} {x : D} {acc r : List (Key × D)}, compK f xs acc = some r → xs[i]? = some x →
    ∃ r1 o, compK f (xs.take i) acc = some r1 ∧ f x = some o ∧ compK f (xs.take (i + 1)) acc = some (match o with | some (k, d) => putD r1 k d | none => r1)
  | [], _, _, _, _, _, e => by simp at e
  | y :: ys, 0, x, acc, r, h, e => by
    have e' : y = x := Option.some.inj e
    subst e'
    obtain ⟨o, e1, h⟩ := Option.bind_eq_some_iff.mp (show (f y).bind _ = some r from h)
    refine ⟨acc, o, rfl, e1, ?_⟩
    show (f y).bind _ = _
    rw [e1]
    cases o with
    | none => rfl
    | some p => rfl
  | y :: ys, i + 1, x, acc, r, h, e => by
    obtain ⟨o, e1, h⟩ := Option.bind_eq_some_iff.mp (show (f y).bind _ = some r from h)
    cases o with
    | none =>
      obtain ⟨r1, o2, h1, h2, h3⟩ := compK_take (i := i) h (by simpa using e)
      refine ⟨r1, o2, ?_, h2, ?_⟩
      · show (f y).bind _ = _
        rw [e1]; exact h1
      · show (f y).bind _ = _
        rw [e1]; exact h3
    | some p =>
      obtain ⟨r1, o2, h1, h2, h3⟩ := compK_take (i := i) h (by simpa using e)
      refine ⟨r1, o2, ?_, h2, ?_⟩
      · show (f y).bind _ = _
        rw [e1]; exact h1
      · show (f y).bind _ = _
        rw [e1]; exact h3
theorem compK_len {f : D → Option (Option (Key × D))} : ∀ {xs : List D} {acc r : List (Key × D)}, compK f xs acc = some r → r.length ≤ acc.length + xs.length
  | [], acc, r, h => by cases h; simp
  | y :: ys, acc, r, h => by
    obtain ⟨o, e1, h⟩ := Option.bind_eq_some_iff.mp (show (f y).bind _ = some r from h)
    cases o with
    | none =>
      have := compK_len (show compK f ys acc = some r from h)
      simp only [List.length_cons]; omega
    | some p =>
      have := compK_len (show compK f ys (putD acc p.1 p.2) = some r from h)
      have := putD_len (ks := acc) (k := p.1) (d := p.2)
      simp only [List.length_cons]; omega
theorem Tabs_putD {H : Hp} {a : Addr} {vs : List (Key × V)} {o : HO} (ha : H a = some (.dK vs)) (t : Tabs T H) : Tabs T (upd H a o) := fun p hp => by
  obtain ⟨ps, a1, a2, a3⟩ := t p hp
  refine ⟨ps, ?_, a2, fun pos cv hcv => ?_⟩
  · rw [upd_ne (fun z => by rw [z, ha] at a1; cases a1)]
    exact a1
  · obtain ⟨c, e1, e2⟩ := a3 pos cv hcv
    refine ⟨c, e1, ?_⟩
    rw [upd_ne (fun z => by rw [z, ha] at e2; unfold LamX.CodeO at e2; cases e2)]
    exact e2
theorem Keep.putD {H0 H : Hp} {a : Addr} {vs : List (Key × V)} {o : HO} (k : Keep T H0 H) (hn : Fre (H0 a)) (ha : H a = some (.dK vs)) : Keep T H0 (upd H a o) :=
  ⟨fun b u e n => by rw [upd_ne (hn.ne e n)]; exact k.old b u e n, fun t => Tabs_putD ha (k.tabs t)⟩
theorem Fre.dK {vs : List (Key × V)} {p : Prop} (h : Fre (some (.dK vs))) : p := by
  rcases h with h | ⟨ps, h⟩ <;> cases h
theorem el_dc {wi : TI} {mi : M (List D)} {tg : TG} {is vs : List Nat} {g : D → Fr → Option Fr} {tt : TT} {mt : M Bool} {tk tv : TE} {mk mv : M D} (hi : IL T K wi mi) (hg : GL T K tg is g) (ht : TL T K tt mt) (hk : EL T K tk mk) (he : EL T K tv mv) (hv : ∀ i ∈ is, i ∈ vs) :
    EL T K (tDc wi tg tt tk tv vs) (mDc mi vs g mt mk mv) := by
  intro F0 H0 σ F H ρ ds S h Q q
  unfold mDc at h
  obtain ⟨xs, e1, h⟩ := Option.bind_eq_some_iff.mp h
  split at h
  · rename_i hz
    obtain ⟨rs, hrs, h⟩ := Option.map_eq_some_iff.mp h
    subst h
    refine hi F0 H0 σ F H ρ xs S e1 _ fun J F1 H1 g1 J1 => ?_
    intro Dd hD
    refine ⟨fun i m H2 => m = xs.length - i ∧ i ≤ xs.length ∧ ∃ F2 us r, Grow T F1 H1 F2 H2 ∧ H2 Dd = some (.dK us) ∧ F2 Dd = Option.none ∧ compK (turnK g mt mk mv (wipeF ρ vs)) (xs.take i) [] = some r ∧ RpK K F2 us r,
      ⟨xs.length, by simp, Nat.zero_le _, F1, [], [], Grow.mine g1.s hD, upd_same, g1.s.same.free hD, rfl, .nil⟩, ?_⟩
    rintro i m H2 ⟨rfl, hil, F2, us, r, g2, hDl, hDf, hc, hr⟩
    by_cases hlt : i < xs.length
    · obtain ⟨d, hd⟩ := some_at hlt
      obtain ⟨r1, o, hc1, hfo, hro⟩ := compK_take hrs hd
      rw [hc] at hc1
      cases hc1
      have hul : us.length < sizeLine := by
        have h1 := compK_len hc
        rw [hr.len]
        rw [List.length_take] at h1
        simp only [List.length_nil] at h1
        omega
      refine .inr ⟨J1.go i H2 (g2.f.trans g2.s.same) hlt, fun H3 => ∃ F3 us' rr, Grow T F1 H1 F3 H3 ∧ H3 Dd = some (.dK us') ∧ F3 Dd = Option.none ∧ compK (turnK g mt mk mv (wipeF ρ vs)) (xs.take (i + 1)) [] = some rr ∧ RpK K F3 us' rr, ?_, ?_⟩
      · rintro H3 ⟨F3, us', rr, g3, a1, a2, a4, a3⟩
        exact ⟨xs.length - (i + 1), by omega, rfl, hlt, F3, us', rr, g3, a1, a2, a4, a3⟩
      · intro x H3 hy
        obtain ⟨F3, g3, rx⟩ := J1.yld i d F2 H2 x H3 g2.f g2.s hd hy
        have g23 := g2.trans g3
        have S3 : State T K F0 H0 (L2.wipe σ vs) F3 H3 (wipeF ρ vs) := ((S.wipe vs).grow g1).grow g23
        unfold turnK at hfo
        obtain ⟨ρ2, e2, hfo⟩ := Option.bind_eq_some_iff.mp hfo
        obtain ⟨b, e3, hfo⟩ := Option.bind_eq_some_iff.mp hfo
        have dIn : ∀ {F' H' : Hp}, Grow T F3 H3 F' H' → H' Dd = some (.dK us) ∧ F' Dd = Option.none := fun {F' H'} g' => by
          have h3 : H3 Dd = some (.dK us) := g3.h.old _ _ hDl fun ps z => by cases z
          have f3 : F3 Dd = Option.none := by
            cases q : F3 Dd with
            | none => rfl
            | some u => have z := g3.n Dd u q hDf; rw [hDl] at z; exact z.dK
          refine ⟨g'.h.old _ _ h3 (fun ps z => by cases z), ?_⟩
          cases q : F' Dd with
          | none => rfl
          | some u => have z := g'.n Dd u q f3; rw [h3] at z; exact z.dK
        refine hg F0 H0 _ F3 H3 _ x d ρ2 S3 rx e2 _ fun σ4 S4 w4 => ?_
        refine ⟨by rw [w4 vs hv]; exact wipe_wipeX, ?_⟩
        refine ht F0 H0 σ4 F3 H3 ρ2 b S4 e3 _ fun F5 H5 g5 => ?_
        cases b with
        | true =>
          rw [if_pos rfl] at hfo ⊢
          obtain ⟨y, e6, hfo⟩ := Option.bind_eq_some_iff.mp hfo
          obtain ⟨kk, e7, hfo⟩ := Option.bind_eq_some_iff.mp hfo
          obtain ⟨dd, e8, e9⟩ := Option.map_eq_some_iff.mp hfo
          subst e9
          refine hk F0 H0 σ4 F5 H5 ρ2 y (S4.grow g5) e6 _ fun v F6 H6 g6 r6 => ?_
          refine he F0 H0 σ4 F6 H6 ρ2 dd ((S4.grow g5).grow g6) e8 _ fun u F7 H7 g7 r7 => ?_
          obtain ⟨a1, a2⟩ := dIn ((g5.trans g6).trans g7)
          have g17 := ((g23.trans g5).trans g6).trans g7
          have hDn : H1 Dd = Option.none := hD
          refine ⟨us, kk, rp_key r6 e7, a1, hul, F7, putK us kk u, _, ⟨g17.f, g17.h.putD (.inl hDn) a1, ⟨fun b u e => by rw [upd_ne (ne_of_none e a2)]; exact g17.s.same _ _ e, g17.s.nt, Tabs_putD a1 g17.s.tabs⟩, g17.n⟩, upd_same, a2, hro, ?_⟩
          exact ((hr.mono g3.f).mono ((g5.f.trans g6.f).trans g7.f)).put r7
        | false =>
          rw [if_neg Bool.false_ne_true] at hfo ⊢
          cases hfo
          obtain ⟨a1, a2⟩ := dIn g5
          exact ⟨F5, us, r, g23.trans g5, a1, a2, hro, (hr.mono g3.f).mono g5.f⟩
    · have e : i = xs.length := by omega
      subst e
      rw [List.take_length, hrs] at hc
      cases hc
      refine .inl ⟨J1.stop _ H2 (g2.f.trans g2.s.same) (Nat.le_refl _), ?_⟩
      have s2 : Same F2 (upd F2 Dd (.dK us)) := fun b u e => by rw [upd_ne (ne_of_none e hDf)]; exact e
      exact q (.ref Dd) _ H2 (keep_new (g1.trans g2) hDl hDf (g1.h.free (.inl hD))) (.dct upd_same (hr.mono s2).kv)
  · cases h
theorem xd_dc {kx vx tgt iter : Expr} {ifs : List Expr} {scope : Scope} {own : List (Str × Nat)} {pos : Pos} {mi : M (List D)} {is : List Nat} {g : D → Fr → Option Fr} {mt : M Bool} {mk mv : M D} (hN : ∀ i0, (X i0).N.Nodup) (ok : ∀ i0, BlkOk (X i0).N (X i0).env.scope scope own) (hi : XI X T K tgt iter mi)
    (hg : XG (bx X scope) T K tgt is g) (ht : XTs (bx X scope) T K ifs mt) (hk : XD (bx X scope) T K kx mk) (he : XD (bx X scope) T K vx mv)
    (hc : ∀ i0, (X i0).calm = true := by intro _; rfl) (hv : ∀ i ∈ is, i ∈ own.map (·.2) := by decide) (hs : ∀ i0, ∀ x, foldedSetIterable iter (X i0).env x = pure x := by intro _ _; rfl) : XD X T K (.DictComp kx vx [⟨tgt, iter, ifs, 0⟩] scope pos) (mDc mi (own.map (·.2)) g mt mk mv) := by
  obtain ⟨wi, p1, l1⟩ := hi
  obtain ⟨tg, p2, l2⟩ := hg
  obtain ⟨tt, p3, l3⟩ := ht
  obtain ⟨tk, p5, l5⟩ := hk
  obtain ⟨te, p4, l4⟩ := he
  exact ⟨_, fun i0 => pe_dc (hc i0) (hN i0) (p1 i0) (ok i0) (fun s H C cl fp => p2 (i0, s, H, C, cl, fp)) (fun s H C cl fp => p3 (i0, s, H, C, cl, fp)) (fun s H C cl fp => p5 (i0, s, H, C, cl, fp)) (fun s H C cl fp => p4 (i0, s, H, C, cl, fp)) (hs i0), el_dc l1 l2 l3 l5 l4 hv⟩
end
end Pd

namespace Pd
open PySem PySem.Spec PyProof.Rows L2
/-! ### tuples of whole numbers by order; names of mirrors -/
def dLeT : D → D → Option D
  | .tuple xs, .tuple ys => (asInts xs).bind fun ns => (asInts ys).map fun ms => .bool (Ob.lexAt (fun j => decide (ns.getD j 0 = ms.getD j 0)) (fun j => decide (ns.getD j 0 ≤ ms.getD j 0)) (decide (ns.length ≤ ms.length)) 0 (min ns.length ms.length))
  | _, _ => none
def dLtT : D → D → Option D
  | .tuple xs, .tuple ys => (asInts xs).bind fun ns => (asInts ys).map fun ms => .bool (HT.lexLt ns ms)
  | _, _ => none
theorem dLeT2 (a b c d : Int) : dLeT (.tuple [.int a, .int b]) (.tuple [.int c, .int d]) = some (.bool (if a = c then decide (b ≤ d) else decide (a ≤ c))) := by
  show some (PyData.bool (Ob.lexAt _ _ _ 0 2)) = _
  unfold Ob.lexAt
  by_cases h : a = c
  · subst h
    by_cases h2 : b = d
    · subst h2
      simp [Ob.lexAt]
    · simp [Ob.lexAt, h2]
  · simp [h]
section
variable {ι : Type} {T : List (Addr × Str)} {K : PySem.W.Frag} {X : ι → Cx}
theorem ol_leT : OpL T K (rLeT K) dLeT := by
  intro F H x y dx dy d s rx ry h Q q
  cases rx <;> (first | (cases ry <;> simp only [dLeT] at h <;> cases h; done) | skip)
  cases ry <;> simp only [dLeT] at h <;> try (cases h; done)
  rename_i a xs ds hs ra b ys es hs2 rb
  obtain ⟨ns, e1, h⟩ := Option.bind_eq_some_iff.mp h
  obtain ⟨ms, e2, h⟩ := Option.map_eq_some_iff.mp h
  subst h
  obtain ⟨f1, _⟩ := asInts_rp ra e1
  obtain ⟨f2, _⟩ := asInts_rp rb e2
  subst f1 f2
  exact ⟨a, b, ns, ms, rfl, rfl, SqT_same s.same hs, SqT_same s.same hs2, q _ F H (Grow.refl s) (.bl _)⟩
theorem ol_ltT : OpL T K (rLtT K) dLtT := by
  intro F H x y dx dy d s rx ry h Q q
  cases rx <;> (first | (cases ry <;> simp only [dLtT] at h <;> cases h; done) | skip)
  cases ry <;> simp only [dLtT] at h <;> try (cases h; done)
  rename_i a xs ds hs ra b ys es hs2 rb
  obtain ⟨ns, e1, h⟩ := Option.bind_eq_some_iff.mp h
  obtain ⟨ms, e2, h⟩ := Option.map_eq_some_iff.mp h
  subst h
  obtain ⟨f1, _⟩ := asInts_rp ra e1
  obtain ⟨f2, _⟩ := asInts_rp rb e2
  subst f1 f2
  exact ⟨a, b, ns, ms, rfl, rfl, SqT_same s.same hs, SqT_same s.same hs2, q _ F H (Grow.refl s) (.bl _)⟩
theorem opk_leT (hu : ∀ i0, (X i0).A.units + 65 < cLine) (k : ∀ i0, (X i0).K = K := by intro _; rfl) : ∀ i0, OpR (X i0) (compareOp .LtE) (rLeT K) := fun i0 => by
  have e := k i0
  subst e
  exact op_leT (by have := hu i0; omega)
theorem opk_ltT (hu : ∀ i0, (X i0).A.units + 65 < cLine) (k : ∀ i0, (X i0).K = K := by intro _; rfl) : ∀ i0, OpR (X i0) (compareOp .Lt) (rLtT K) := fun i0 => by
  have e := k i0
  subst e
  exact op_ltT (by have := hu i0; omega)
def mFLst (m : M (List D)) : M (List D) := fun ρ => (m ρ).bind fun xs => if xs.length ≤ sizeLine then some xs else none
def mFList (a : M D) : M (List D) := fun ρ => (a ρ).bind fun x => match x with
  | .list xs => some xs
  | .tuple xs => some xs
  | _ => none
end
end Pd

namespace Pd
open PySem PySem.Spec PyProof.Rows L2
section
variable {P : Program} {w : World} {T : List (Addr × Str)} {K : PySem.W.Frag} {mg : Str → Option Value} {base : Heap}
/-- a def whose code object is known: for lambdas -/
theorem fnD2 {x qual : Str} {st : Stmt} {f c : Addr} {fd : FuncData} {N ps : List Str} {k : Nat} {m : M Out} (F : Fun K x qual st f fd) (hc : fd.code = .ref c) (S : FnScope N ps (defScope st))
    (hb : ∀ (A : Around) (outer : List Env) (s : Shared) (H : Hp) (E : XK), Room k (A.deeper (envOfC qual (defScope st) s.heap.objs.size f (.ref c))) → XSs (fun _ : Unit => (cxOf CX0 P w K mg base N qual (defScope st) f (.ref c) A outer s H E).nox) T K W0 (defBody st) m) :
    FnOk P w K mg base CX0 (k + 1) f fd ps (spD T K (runD ps.length N.length m)) := by
  obtain ⟨⟨oc, od, kV, doc, pm, an, cdv, ct, osl, e1, e2, e3⟩, kp⟩ := F
  subst e1
  have e4 : cdv = .ref c := hc
  subst e4
  refine L2.fn_of (CX := CX0) e2 e3 S (fun vs H Q E h => ?_) (fun A outer s H vs Q E hr h => ?_)
  · obtain ⟨F0, ds, d, s0, r, e, _⟩ := h
    unfold runD at e
    split at e
    · rename_i hz
      rw [r.length]; exact hz
    · cases e
  · obtain ⟨F0, ds, d, s0, r, e, q⟩ := h
    obtain ⟨t, p, l⟩ := hb A outer s H E hr
    refine ⟨t, (p ()).nox, ?_⟩
    unfold runD at e
    split at e
    · obtain ⟨o, e1, e2⟩ := Option.bind_eq_some_iff.mp e
      refine l F0 H _ F0 H _ o _ (start_state s0 r) e1 ?_
      cases o with
      | rt d' => cases e2; exact fun v F1 H1 g1 r1 => q v F1 H1 g1 r1
      | nx ρ => cases e2; exact fun σ F1 H1 S1 _ => q .non F1 H1 S1.g .non
      | bk ρ => cases e2
      | ct ρ => cases e2
      | ex n ρ => cases e2
    · cases e
/-- what the law's own promise is: the script's whole numbers in, True out -/
def spEnd (T : List (Addr × Str)) (K : PySem.W.Frag) (n : Nat) : Sp := fun vs H Q _ => ∃ (a : Addr) (ns : List Int), vs = [.ref a] ∧ SqL K H a (ns.map V.int) ∧ ns.length ≤ n ∧ (∀ z ∈ ns, Builtin.Int.intBits z ≤ 1048576) ∧ Tabs T H ∧ ∀ H', Q (.bl true) H'
open Classical in
theorem end_ok {f : Addr} {fd : FuncData} {ps : List Str} {k n : Nat} {g : List D → Option D} (F : FnOk P w K mg base CX0 k f fd ps (spD T K g))
    (h : ∀ ns : List Int, ns.length ≤ n → (∀ z ∈ ns, Builtin.Int.intBits z ≤ 1048576) → g [.list (ns.map .int)] = some (.bool true)) : FnOk P w K mg base CX0 k f fd ps (spEnd T K n) := by
  refine F.imp fun vs H Q E ⟨a, ns, e, hs, hl, hb, ht, q⟩ => ?_
  subst e
  let F0 : Hp := fun b => if ∃ ps, H b = some (.tbl ps) then none else H b
  have s0 : Sub T F0 H := by
    refine ⟨fun b o e => ?_, fun b ps e => ?_, ht⟩
    · have e' : (if ∃ ps, H b = some (.tbl ps) then none else H b) = some o := e
      split at e'
      · cases e'
      · exact e'
    · have e' : (if ∃ ps, H b = some (.tbl ps) then none else H b) = some (.tbl ps) := e
      split at e'
      · cases e'
      · rename_i hx
        exact hx ⟨ps, e'⟩
  have keep : ∀ {b : Addr} {o : HO}, H b = some o → (∀ ps, o ≠ .tbl ps) → F0 b = some o := fun {b o} e n => by
    show (if ∃ ps, H b = some (.tbl ps) then none else H b) = some o
    rw [if_neg]
    · exact e
    · rintro ⟨ps, z⟩
      rw [e] at z
      exact n ps (Option.some.inj z)
  have hs0 : SqL K F0 a (ns.map V.int) := by
    rcases hs with (h | ⟨o, h⟩) | h
    · exact .inl (.inl (keep h fun ps z => by cases z))
    · exact .inl (.inr ⟨o, keep h fun ps z => by cases z⟩)
    · exact .inr h
  have allI : ∀ l : List Int, RpAll K F0 (l.map V.int) (l.map PyData.int) := by
    intro l
    induction l with
    | nil => exact .nil
    | cons i l ih => exact .cons (.int i) ih
  refine ⟨F0, [.list (ns.map .int)], .bool true, s0, .cons (.lst hs0 (allI ns)) .nil, h ns hl hb, fun v F' H' g' r => ?_⟩
  cases r
  exact q H'
/-- the code object's parts that the making of inner code asks -/
def codeOk (vs : Array Value) (P : Addr) : Bool := (match vs[11]? with | some (Value.ref q) => q == P | _ => false) && (match vs.getD 18 Value.none with | Value.str _ _ => true | _ => false) && (match vs.getD 7 Value.none with | Value.int _ _ => true | _ => false) && (match vs.getD 9 Value.none with | Value.bool _ => true | _ => false) && (match vs.getD 10 Value.none with | Value.int _ _ => true | _ => false)
theorem codeHd_of {h : Heap} {c P : Addr} {od : Option Addr} {vs : Array Value} {sl : Array (Option Value)} (X : K.In h) (e : K.lookup c = some ⟨.type "code", od, .fields vs, sl⟩) (ok : codeOk vs P = true) (ne : c ≠ P) : PySem.W.CodeHd h c P := by
  unfold codeOk at ok
  simp only [Bool.and_eq_true] at ok
  obtain ⟨⟨⟨⟨o1, o2⟩, o3⟩, o4⟩, o5⟩ := ok
  have a1 : vs[11]? = some (.ref P) := by
    split at o1
    · rename_i q hq
      rw [hq, eq_of_beq o1]
    · cases o1
  have a1' : vs.getD 11 Value.none = .ref P := by
    rw [Array.getD_eq_getD_getElem?, a1]; rfl
  split at o2
  · rename_i file tf h2
    split at o3
    · rename_i fl tg h3
      split at o4
      · rename_i inF h4
        split at o5
        · rename_i tx tt h5
          exact ⟨_, vs, file, tf, fl, tg, inF, tx, tt, X _ _ e, rfl, rfl, a1, a1', h2, h3, h4, h5, ne⟩
        · cases o5
      · cases o4
    · cases o3
  · cases o2
theorem walkT {l : PySem.W.OpenLaw} {q : Program} {loose : List Str} {XP : (Str → Option Value) → Heap → Prop} {YP : World → Heap → Prop} {d : DefRec} {K : Params → PySem.W.Frag} {k : Nat} {x : Str} (hn : l.most = some 63) (hdf : d.params.defaults = []) (hr : Room k callerA)
    (hY : ∀ (w : World) (h : Heap), YP w h → (K w.params).In h)
    (F : ∀ (w : World) (mg : Str → Option Value) (fa : Addr) (h : Heap), YP w h → (K w.params).In h → h.Ns mainGlobals mg → mg d.name = some (.ref fa) →
      ∃ (cs : List (Addr × Addr)) (T : List (Addr × Str)) (fd : FuncData), (∀ p ∈ cs, h.get? p.2 = some { cls := Value.none, data := Data.fields #[] }) ∧ (∀ p ∈ cs, (K w.params).lookup p.2 = none) ∧ (∀ p ∈ cs, PySem.W.CodeHd h p.1 p.2) ∧ (∀ t ∈ T, ∃ p ∈ cs, p.2 = t.1) ∧
        (∀ (s : Shared) (u : Value), BindsTo s fd ⟨[u], []⟩ [(x, u)]) ∧ ∀ base : Heap, (K w.params).In base → base.Ns mainGlobals mg → (∀ p ∈ cs, LamX.TabB base mg p.1 p.2) → FnOk l.prog w (K w.params) mg base CX0 k fa fd [x] (spEnd T (K w.params) 63)) :
    PySem.W.WalkO q loose XP YP l.row.toRowW d [] (fun f vs => PySem.call f vs) := by
  refine LamX.walk_ofTs (n := 63) (k := k) (x := x) (CX := fun _ => CX0) hn (by decide) hdf hr hY (fun w mg fa h Y X G hmg => ?_) fun _ _ _ _ _ z => z
  obtain ⟨cs, T, fd, h1, h2, h3, h4, h5, h6⟩ := F w mg fa h Y X G hmg
  refine ⟨fd, cs, spEnd T (K w.params) 63, h1, h2, h3, h5, fun H a ns hl hb ht hs => ?_, h6⟩
  refine ⟨a, ns, rfl, hs, hl, hb, fun t hT => ?_, fun _ => rfl⟩
  obtain ⟨p, hp, e⟩ := h4 t hT
  rw [← e]
  exact LamX.TabS.nil (ht p hp)
end
end Pd
namespace Pd
open PySem PySem.Spec PyProof.Rows L2
theorem depth1 {k : Nat} {A : Around} (r : Room k A) : A.depth + 1 < recursionLimit := by have := r.dp; omega
end Pd

namespace Pd
open PySem PySem.Spec PyProof.Rows L2
/-! ### working mirrors out -/
theorem compL_fm {α : Type} {f : D → Option (Option D)} {e : α → D} {o : α → Option D} : ∀ {l : List α}, (∀ a ∈ l, f (e a) = some (o a)) → compL f (l.map e) = some (l.filterMap o)
  | [], _ => rfl
  | a :: l, h => by
    rw [List.map_cons]
    unfold compL
    rw [h a List.mem_cons_self, compL_fm fun b hb => h b (List.mem_cons_of_mem _ hb), List.filterMap_cons]
    cases o a <;> rfl
theorem mLc_fm {α : Type} {mi : M (List D)} {vs : List Nat} {g : D → Fr → Option Fr} {mt : M Bool} {me : M D} {ρ : Fr} {e : α → D} {o : α → Option D} {l : List α} (hi : mi ρ = some (l.map e)) (hl : l.length ≤ sizeLine) (h : ∀ a ∈ l, turnD g mt me (wipeF ρ vs) (e a) = some (o a)) : mLc mi vs g mt me ρ = some (l.filterMap o) := by
  unfold mLc
  rw [hi, Option.bind_some, if_pos (by rw [List.length_map]; exact hl), compL_fm h]
theorem mLc_map {α : Type} {mi : M (List D)} {vs : List Nat} {g : D → Fr → Option Fr} {mt : M Bool} {me : M D} {ρ : Fr} {e : α → D} {o : α → D} {l : List α} (hi : mi ρ = some (l.map e)) (hl : l.length ≤ sizeLine) (h : ∀ a ∈ l, turnD g mt me (wipeF ρ vs) (e a) = some (some (o a))) : mLc mi vs g mt me ρ = some (l.map o) := by
  rw [mLc_fm (o := fun a => some (o a)) hi hl h]
  rw [show (fun a => some (o a)) = some ∘ o from rfl, List.filterMap_eq_map]
theorem putD_new {ks : List (Key × D)} {k : Key} {d : D} (h : k ∉ ks.map (·.1)) : putD ks k d = ks ++ [(k, d)] := by
  unfold putD
  rw [if_neg]
  intro z
  obtain ⟨p, hp, e⟩ := List.any_eq_true.mp z
  exact h (List.mem_map.mpr ⟨p, hp, of_decide_eq_true e⟩)
theorem compK_fm {α : Type} {f : D → Option (Option (Key × D))} {e : α → D} {o : α → Option (Key × D)} : ∀ {l : List α} {acc : List (Key × D)}, (∀ a ∈ l, f (e a) = some (o a)) → ((acc ++ l.filterMap o).map (·.1)).Nodup → compK f (l.map e) acc = some (acc ++ l.filterMap o)
  | [], acc, _, _ => by simp [compK]
  | a :: l, acc, h, hn => by
    rw [List.map_cons]
    unfold compK
    rw [h a List.mem_cons_self, Option.bind_some]
    rw [List.filterMap_cons] at hn ⊢
    cases q : o a with
    | none =>
      rw [q] at hn
      exact compK_fm (fun b hb => h b (List.mem_cons_of_mem _ hb)) hn
    | some p =>
      obtain ⟨k, d⟩ := p
      rw [q] at hn
      have hn' : ((acc ++ (k, d) :: l.filterMap o).map (·.1)).Nodup := hn
      have nk : k ∉ acc.map (·.1) := by
        intro z
        rw [List.map_append, List.nodup_append] at hn'
        exact hn'.2.2 k z k (by simp) rfl
      show compK f (l.map e) (putD acc k d) = _
      rw [putD_new nk, compK_fm (fun b hb => h b (List.mem_cons_of_mem _ hb)) (by rw [List.append_assoc]; exact hn'), List.append_assoc]
      rfl
theorem mDc_fm {α : Type} {mi : M (List D)} {vs : List Nat} {g : D → Fr → Option Fr} {mt : M Bool} {mk mv : M D} {ρ : Fr} {e : α → D} {o : α → Option (Key × D)} {l : List α} (hi : mi ρ = some (l.map e)) (hl : l.length ≤ sizeLine) (h : ∀ a ∈ l, turnK g mt mk mv (wipeF ρ vs) (e a) = some (o a))
    (hn : ((l.filterMap o).map (·.1)).Nodup) : mDc mi vs g mt mk mv ρ = some (dictD (l.filterMap o)) := by
  unfold mDc
  rw [hi, Option.bind_some, if_pos (by rw [List.length_map]; exact hl), compK_fm h (by simpa using hn)]
  rfl
theorem dGetV_dictD {ks : List (Key × D)} {k : Key} : dGetV (ks.map fun p => (kD p.1, p.2)) k = (ks.find? fun p => decide (p.1 = k)).map (·.2) := by
  unfold dGetV
  rw [List.find?_map, Option.map_map]
  congr 1
  congr 1
  funext p
  simp [keyOf_kD]
theorem sortK_pwR {α : Type} {R : Int × α → Int × α → Prop} : ∀ {l : List (Int × α)}, l.Pairwise R → (sortK l).Pairwise fun p q => p.1 < q.1 ∨ (p.1 = q.1 ∧ R p q)
  | [], _ => List.Pairwise.nil
  | p :: l, h => by
    have hc := List.pairwise_cons.mp h
    have ih := sortK_pwR hc.2
    have key : ∀ {m : List (Int × α)}, (∀ q ∈ m, R p q) → m.Pairwise (fun x y => x.1 ≤ y.1) → m.Pairwise (fun p q => p.1 < q.1 ∨ (p.1 = q.1 ∧ R p q)) → (insK p m).Pairwise fun p q => p.1 < q.1 ∨ (p.1 = q.1 ∧ R p q) := by
      intro m
      induction m with
      | nil => intro _ _ _; unfold insK; simp
      | cons q r ih2 =>
        intro hR hs hp
        unfold insK
        have hs' := List.pairwise_cons.mp hs
        have hp' := List.pairwise_cons.mp hp
        split
        · rename_i hpq
          refine List.pairwise_cons.mpr ⟨fun x hx => ?_, hp⟩
          have hx1 : p.1 ≤ x.1 := by
            rcases List.mem_cons.mp hx with rfl | hx
            · exact hpq
            · exact Int.le_trans hpq (hs'.1 x hx)
          rcases Int.lt_or_eq_of_le hx1 with hlt | heq
          · exact .inl hlt
          · exact .inr ⟨heq, hR x hx⟩
        · rename_i hpq
          refine List.pairwise_cons.mpr ⟨fun x hx => ?_, ih2 (fun q hq => hR q (List.mem_cons_of_mem _ hq)) hs'.2 hp'.2⟩
          rcases insK_mem hx with rfl | hx
          · exact .inl (by omega)
          · exact hp'.1 x hx
    exact key (fun q hq => hc.1 q ((sortK_perm l).mem_iff.mp hq)) (sortK_pw l) ih
end Pd

namespace Pd
open PySem PySem.Spec PyProof.Rows L2
/-! ### the caught error: isinstance, and a def that gets it -/
theorem call_isP {X : Cx} {a D : Addr} {oe : Obj} (hp : (a, oe) ∈ X.pn) (C : ExcC X.K D) (hz : Zc (.ref D) none oe) (hf : ∃ vs, oe.data = Data.fields vs) : CallR X (.builtin "isinstance") (rIsE X.K D a) := by
  intro pins s σ H xs us Q I rv q
  obtain ⟨c, cv, b, rfl, hc, hk, q⟩ := q
  obtain ⟨u1, u2, rfl, r1, r2⟩ : ∃ u1 u2, us = [u1, u2] ∧ L2.RelV (.ref a) u1 ∧ L2.RelV c u2 := by
    cases rv with
    | cons h1 r =>
      cases r with
      | cons h2 r => cases r; exact ⟨_, _, rfl, h1, h2⟩
  have e1 : u1 = Value.ref a := r1
  have e2 := hc u2 r2
  subst e1 e2
  obtain ⟨g1, g2, _⟩ := I.pin (a, oe) (List.mem_append_left _ hp)
  obtain ⟨vs, hvs⟩ := hf
  refine PySem.W.kia_one (PySem.W.handS_kitx_exc (ox := oe) C.hg C.hk C.hs C.hd C.ha C.hn C.ht C.hm) I.kIn ⟨g1, hz.1, ?_, ?_⟩ hk (by intro z; cases z) fun tk => ⟨.bl b, H, I.tok tk, rfl, q⟩
  · unfold PySem.W.notCls
    rw [hvs]
  · rw [hz.2]
    trivial
structure FnP (P : Program) (w : World) (K : PySem.W.Frag) (mg : Str → Option Value) (base : Heap) (k : Nat) (f : Addr) (fd : FuncData) (ps : List Str) (D : Addr) (sp : Addr → List V → Hp → VK → Prop) : Prop where
  run : ∀ (A : Around) (outer : List Env) (s : Shared) (H : Hp) (args : Args) (us : List Value) (vs : List V) (Q : VK) (p : Addr × Obj), L2H.RoomH k A → L2H.Hot1 A p → Zc (.ref D) none p.2 → L2H.PinOk outer H s p → Env0 P w K mg base A outer s H →
    BindsTo s fd args (ps.zip us) → Vals vs us → vs.length = ps.length → sp p.1 vs H Q → codeAny (model P w) A (Code.call (Value.ref f) args) (CR CX0 outer P w H s Q E0) s
theorem fn_ofP {P : Program} {w : World} {K : PySem.W.Frag} {mg : Str → Option Value} {base : Heap} {k : Nat} {x qual : Str} {st : Stmt} {f D : Addr} {fd : FuncData} {N ps : List Str} {sp : Addr → List V → Hp → VK → Prop} (F : Fun K x qual st f fd) (S : FnScope N ps (defScope st))
    (hb : ∀ (cdv : Value) (A : Around) (outer : List Env) (s : Shared) (H : Hp) (vs : List V) (Q : VK) (p : Addr × Obj), L2H.Hot1 A p → Zc (.ref D) none p.2 → L2H.RoomH k (A.deeper (envOfC qual (defScope st) s.heap.objs.size f cdv)) → sp p.1 vs H Q →
      ∃ t, PSs (L2H.cxH CX0 P w K mg base N qual (defScope st) f cdv A outer s H E0 p) (defBody st) t ∧ t { nx := fun _ H' => Q V.non H', rt := Q } (L2.start N vs) H) : FnP P w K mg base (k + 1) f fd ps D sp := by
  obtain ⟨⟨oc, od, kV, doc, pm, an, cdv, ct, osl, e1, e2, e3⟩, kp⟩ := F
  subst e1
  constructor
  intro A outer s H args us vs Q p hr hh hz hp e0 hbd rv hl hs
  have hin : K.In s.heap := fun a o e => (e0.bs a o (e0.mod.kin a o e)).1
  have hnl : s.heap.NoLimit := by
    obtain ⟨mc, ⟨no, es, ep, n1, n2⟩, n3⟩ := e0.mod.nolimit
    exact ⟨mc, ⟨no, es, ep, (e0.bs _ _ n1).1, n2⟩, n3⟩
  have hr' : L2H.RoomH k (A.deeper (envOfC qual (defScope st) s.heap.objs.size f cdv)) := ⟨by have := hr.dp; show A.depth + 1 + 3 * k + 5 < _; omega, by have := hr.un; show A.units + 3 + 16 * k + 200 < _; omega⟩
  refine Att.call_fn hin hnl e2 e3 (by have := hr.dp; omega) hbd ?_ (fun s1 hin1 => ?_) S.co S.gen S.kind
  · rw [List.all_eq_true]
    intro y hy
    have hy1 : y.1 ∈ ps := (List.of_mem_zip hy).1
    rcases S.par y.1 hy1 with h | h <;> rw [h] <;> rfl
  · obtain ⟨t, pt, ht⟩ := hb cdv A outer s H vs Q p hh hz hr' hs
    have I := L2H.inv_startH (CX := CX0) (E := E0) S hp e0 hl rv hin1
    refine wpAny_mono (pt.run [] s1 (L2.start N vs) H _ I ht) (fun fl s' z => ?_) (fun e s' z => z)
    cases fl with
    | next =>
      obtain ⟨σ', H', I', q⟩ := z
      exact ⟨.non, H', I'.os, I'.bare, I'.base, I'.hok, rfl, q⟩
    | brk =>
      obtain ⟨σ', H', I', q⟩ := z
      exact q.elim
    | cont =>
      obtain ⟨σ', H', I', q⟩ := z
      exact q.elim
    | ret u =>
      obtain ⟨v, σ', H', I', r, q⟩ := z
      exact ⟨v, H', I'.os, I'.bare, I'.base, I'.hok, r, q⟩
def tCallP (sp : Addr → List V → Hp → VK → Prop) (a : Addr) (t : TA) : TE := fun σ H Q => t σ H fun vs H1 => sp a vs H1 Q
theorem pe_callP {X : Cx} {k : Nat} {f a D : Addr} {oe : Obj} {fd : FuncData} {ps : List Str} {sp : Addr → List V → Hp → VK → Prop} {x : Str} {q pos : Pos} {e : Expr} {es : List Expr} {t : TA} (hp : (a, oe) ∈ X.pn) (hh : L2H.Hot1 X.A (a, oe)) (hz : Zc (.ref D) none oe) (hlen : ∀ a vs H Q, sp a vs H Q → vs.length = ps.length)
    (G : FnP X.prog X.w X.K X.mg X.base k f fd ps D sp) {st : Stmt} {qual y : Str} (F : Fun X.K y qual st f fd) (hr : L2H.RoomH k X.A) (hg : Gl X x) (hm : X.mg x = some (.ref f)) (hb : L2.Binds X.K fd ps []) (ha : PA X (e :: es) t)
    (hdb : (x == ("__debug__" : Str)) = false := by decide) (he : starEach (e :: es) X.env = (false, eval e X.env) :: starEach es X.env := by rfl) : PE X (.Call (.Name x q) (e :: es) [] pos) (tCallP sp a t) := by
  constructor
  intro pins s σ H Q I qq
  refine wpAny_Call_NameR (ld_glob I hg hm ?_ hdb)
  obtain ⟨oc, od, kV, doc, pm, an, cdv, ct, osl, e1, e2, e3⟩ := F.ex
  refine callWith_def_at (h' := s.heap) (I.kIn f _ e2) rfl ?_ he
  refine wpAny_mono (ha.run pos pins s σ H _ I qq) ?_ fun _ _ z => z
  rintro us s1 ⟨vs, H1, I1, rv, hs⟩
  refine ⟨I1.kIn f _ e2, wpAny_call ?_⟩
  have hl := hlen _ _ _ _ hs
  have pin : L2H.PinOk X.stack H1 s1 (a, oe) := by
    obtain ⟨g1, g2, g3, g4, g5⟩ := I1.pin (a, oe) (List.mem_append_left _ hp)
    refine ⟨g1, g2, ?_, g5⟩
    rcases I1.ok.stk with h | ⟨h, h'⟩
    · rw [h]; exact g4
    · rw [h]
      unfold L2.frs
      rw [List.filterMap_cons, h']
      intro z
      rcases List.mem_cons.mp z with z | z
      · exact g3 z
      · exact g4 z
  have hbd := hb s1 us I1.kIn (by rw [List.append_nil, ← paired_len rv]; exact hl)
  rw [List.append_nil] at hbd
  refine codeAny_mono (G.run X.A X.stack s1 H1 _ us vs Q (a, oe) hr hh hz pin I1.env0 hbd rv hl hs) fun r s' z => ?_
  cases r with
  | ok fl =>
    cases fl with
    | ret u =>
      obtain ⟨v, H', o1, o2, o3, o4, o5, o6⟩ := z
      exact ⟨v, H', I1.call' (ch := []) o1 o3 o4 o2 (fun b hb => by cases hb), o5, o6⟩
    | next => exact z.elim
    | brk => exact z.elim
    | cont => exact z.elim
  | error e => exact z.elim
end Pd

namespace Pd
open PySem PySem.Spec PyProof.Rows L2
/-! ### defs that may raise -/
inductive Res where
  | val (d : D)
  | exc (n : Str)
def runX (np nl : Nat) (m : M Out) (ds : List D) : Option Res := if ds.length = np then (m (startF nl ds)).bind fun o => match o with
  | .rt d => some (.val d)
  | .nx _ => some (.val .none)
  | .ex n _ => some (.exc n)
  | _ => none
  else none
/-- a def that makes data of data, or raises; cl: the class of a name -/
def spX (T : List (Addr × Str)) (K : PySem.W.Frag) (cl : Str → Addr) (g : List D → Option Res) : Sp := fun vs H Q E => ∃ (F : Hp) (ds : List D) (r : Res), Sub T F H ∧ RpAll K F vs ds ∧ g ds = some r ∧
  (∀ d, r = .val d → ∀ v F' H', Grow T F H F' H' → Rp K F' v d → Q v H') ∧ (∀ n, r = .exc n → ∀ F' H', Grow T F H F' H' → E (.ref (cl n)) none H')
theorem takesN_imp {X : Cx} {W W' : WX} (h : L2N.Takes X W) (i : ∀ c d σ H, W' c d σ H → W c d σ H) : L2N.Takes X W' := fun u s' ⟨a, B, sI, pins, σ, H, cls, d, h1, h2, h3, h4, h5, h6, h7, h8, h9⟩ =>
  h u s' ⟨a, B, sI, pins, σ, H, cls, d, h1, h2, h3, h4, h5, h6, h7, h8, i _ _ _ _ h9⟩
theorem passN {X : Cx} : Passes (L2N.CX X.prog X.w) X E0 := by
  intro pins σ H s e s' _ h
  obtain ⟨a, B, H', cls, d, _, _, _, _, _, _, _, z⟩ := h
  exact z.elim
/-- the wish by names as a wish by classes -/
def WU (cl : Str → Addr) (W : WN) : WX := fun cls d σ H => ∃ n, cls = .ref (cl n) ∧ d = none ∧ W n σ H
section
variable {P : Program} {w : World} {T : List (Addr × Str)} {K : PySem.W.Frag} {mg : Str → Option Value} {base : Heap} {cl : Str → Addr}
theorem fnX {x qual : Str} {st : Stmt} {f : Addr} {fd : FuncData} {N ps : List Str} {k : Nat} {m : M Out} (F : Fun K x qual st f fd) (S : FnScope N ps (defScope st))
    (hb : ∀ (cdv : Value) (A : Around) (outer : List Env) (s : Shared) (H : Hp) (E : XK), Room k (A.deeper (envOfC qual (defScope st) s.heap.objs.size f cdv)) →
      L2N.Takes (cxOf (L2N.CX P w) P w K mg base N qual (defScope st) f cdv A outer s H E) (WU cl fun n _ H' => E (.ref (cl n)) none H') →
      XSs (fun _ : Unit => (cxOf (L2N.CX P w) P w K mg base N qual (defScope st) f cdv A outer s H E)) T K (fun n _ H' => E (.ref (cl n)) none H') (defBody st) m) :
    FnOk P w K mg base (L2N.CX P w) (k + 1) f fd ps (spX T K cl (runX ps.length N.length m)) := by
  obtain ⟨⟨oc, od, kV, doc, pm, an, cdv, ct, osl, e1, e2, e3⟩, kp⟩ := F
  subst e1
  refine L2.fn_of (CX := L2N.CX P w) e2 e3 S (fun vs H Q E h => ?_) (fun A outer s H vs Q E hr h => ?_)
  · obtain ⟨F0, ds, d, s0, r, e, _⟩ := h
    unfold runX at e
    split at e
    · rename_i hz
      rw [r.length]; exact hz
    · cases e
  · obtain ⟨F0, ds, d, s0, r, e, q1, q2⟩ := h
    have tk : L2N.Takes (cxOf (L2N.CX P w) P w K mg base N qual (defScope st) f cdv A outer s H E) (WU cl fun n _ H' => E (.ref (cl n)) none H') :=
      takesN_imp (L2N.takes_of (E := E) rfl rfl rfl rfl) fun c d σ H' ⟨n, e1, e2, h⟩ => by subst e1 e2; exact h
    obtain ⟨t, p, l⟩ := hb cdv A outer s H E hr tk
    refine ⟨t, p (), ?_⟩
    unfold runX at e
    split at e
    · obtain ⟨o, e1, e2⟩ := Option.bind_eq_some_iff.mp e
      refine l F0 H _ F0 H _ o _ (start_state s0 r) e1 ?_
      cases o with
      | rt d' => cases e2; exact fun v F1 H1 g1 r1 => q1 _ rfl v F1 H1 g1 r1
      | nx ρ => cases e2; exact fun σ F1 H1 S1 _ => q1 _ rfl .non F1 H1 S1.g .non
      | bk ρ => cases e2
      | ct ρ => cases e2
      | ex n ρ => cases e2; exact fun σ F1 H1 S1 _ => q2 n rfl F1 H1 S1.g
    · cases e
end
section
variable {ι : Type} {T : List (Addr × Str)} {K : PySem.W.Frag} {W : WN} {X : ι → Cx} {cl : Str → Addr}
theorem xs_raise (n : Str) {bmB : List Value} {B newId initId : String} {x m : Str} {j : Nat} {p p2 pos pos' : Pos} (tk : ∀ i, L2N.Takes (X i) (WU cl W)) (Fb : ExcBaseFacts B newId initId bmB) (q : PySem.W.excIn K (cl n) bmB newId = true) (gC : ∀ i, (X i).mg x = some (.ref (cl n))) (kC : PySem.W.keepIn K (.ref (cl n)) = true)
    (sC : PySem.W.subIn K (.ref (cl n)) (.type "BaseException") = some true) (tC : PySem.W.typeIn K (.ref (cl n)) = some (.type "type")) (hc : ∀ i, (X i).calm = true := by intro _; rfl) (hg : ∀ i, Gl (X i) x := by intro _; rfl) (hd : (x == ("__debug__" : Str)) = false := by decide) (k : ∀ i0, (X i0).K = K := by intro _; rfl) :
    XS X T K W (.Raise (some (.Call (.Name x p) [.Constant (.str m) j p2] [] pos)) none pos') (fun ρ => some (.ex n ρ)) := by
  refine ⟨fun _ σ H => WU cl W (.ref (cl n)) none σ H, fun i => ?_, ?_⟩
  · have e := k i
    subst e
    exact L2N.ps_raise (hc i) (tk i) (L2N.pmk_own Fb q (gC i) kC (raises_own sC tC) (hg i) hd)
  · intro F0 H0 σ F H ρ o De S h Q
    cases h
    exact ⟨n, rfl, rfl, Q σ F H S (Same.refl _)⟩
/-- expressions that may raise -/
def EX (T : List (Addr × Str)) (K : PySem.W.Frag) (W : WN) (te : TE) (m : M Res) : Prop := ∀ (F0 H0 : Hp) (σ : St) (F H : Hp) (ρ : Fr) (r : Res), State T K F0 H0 σ F H ρ → m ρ = some r →
  ∀ Q : VK, (∀ d, r = .val d → ∀ v F' H', Grow T F H F' H' → Rp K F' v d → Q v H') → (∀ n, r = .exc n → ∀ F' H', Grow T F H F' H' → W n σ H') → te σ H Q
def XDX {ι : Type} (X : ι → Cx) (T : List (Addr × Str)) (K : PySem.W.Frag) (W : WN) (e : Expr) (m : M Res) : Prop := ∃ t, (∀ i, PE (X i) e t) ∧ EX T K W t m
def mAX (g : List D → Option Res) (a : M (List D)) : M Res := fun ρ => (a ρ).bind g
theorem xdx_call {j : Nat} {f : Addr} {fd : FuncData} {ps : List Str} {g : List D → Option Res} {x : Str} {e : Expr} {es : List Expr} {m : M (List D)} {p pos : Pos} (tk : ∀ i, L2N.Takes (X i) (WU cl W)) (G : ∀ i0, FnOk (X i0).prog (X i0).w K (X i0).mg (X i0).base (L2N.CX (X i0).prog (X i0).w) j f fd ps (spX T K cl g)) (hr : ∀ i0, Room j (X i0).A) (hm : ∀ i0, (X i0).mg x = some (.ref f)) (hk : PySem.W.keepIn K (.ref f) = true) (hb : Binds K fd ps [])
    (ha : XA X T K (e :: es) m) (hg : ∀ i0, Gl (X i0) x := by intro _; rfl) (hdb : (x == ("__debug__" : Str)) = false := by decide) (he : ∀ i0, starEach (e :: es) (X i0).env = (false, eval e (X i0).env) :: starEach es (X i0).env := by intro _; rfl) (hpl : ∀ i0, (backTo pos (starEach es (X i0).env)).any (·.1) = false := by intro _; rfl) (k : ∀ i0, (X i0).K = K := by intro _; rfl) :
    XDX X T K W (.Call (.Name x p) (e :: es) [] pos) (mAX g m) := by
  obtain ⟨t, p1, l⟩ := ha
  refine ⟨tCallS (spX T K cl g) (WE (WU cl W)) t, fun i0 => by have e := k i0; subst e; exact pe_callS (G i0) (hr i0) (hg i0) (hm i0) hk hb (L2N.passAt (tk i0)) (p1 i0) hdb (he i0) (hpl i0), ?_⟩
  intro F0 H0 σ F H ρ r S h Q q1 q2
  unfold mAX at h
  obtain ⟨xs, e1, h⟩ := Option.bind_eq_some_iff.mp h
  refine l F0 H0 σ F H ρ xs S e1 _ fun vs F1 H1 g1 r1 => ?_
  exact ⟨F1, xs, r, g1.s, r1, h, fun d e v F2 H2 g2 r2 => q1 d e v F2 H2 (g1.trans g2) r2, fun n e F2 H2 g2 => ⟨n, rfl, rfl, q2 n e F2 H2 (g1.trans g2)⟩⟩
/-- a def that may raise, where it doesn't -/
def mVal (g : List D → Option Res) : List D → Option D := fun ds => (g ds).bind fun r => match r with
  | .val d => some d
  | .exc _ => none
theorem xd_callV {j : Nat} {f : Addr} {fd : FuncData} {ps : List Str} {g : List D → Option Res} {x : Str} {e : Expr} {es : List Expr} {m : M (List D)} {p pos : Pos} (G : ∀ i0, FnOk (X i0).prog (X i0).w K (X i0).mg (X i0).base (L2N.CX (X i0).prog (X i0).w) j f fd ps (spX T K cl g)) (hr : ∀ i0, Room j (X i0).A) (hm : ∀ i0, (X i0).mg x = some (.ref f)) (hk : PySem.W.keepIn K (.ref f) = true) (hb : Binds K fd ps [])
    (ha : XA X T K (e :: es) m) (hg : ∀ i0, Gl (X i0) x := by intro _; rfl) (hdb : (x == ("__debug__" : Str)) = false := by decide) (he : ∀ i0, starEach (e :: es) (X i0).env = (false, eval e (X i0).env) :: starEach es (X i0).env := by intro _; rfl) (hpl : ∀ i0, (backTo pos (starEach es (X i0).env)).any (·.1) = false := by intro _; rfl) (k : ∀ i0, (X i0).K = K := by intro _; rfl) :
    XD X T K (.Call (.Name x p) (e :: es) [] pos) (mA (mVal g) m) := by
  obtain ⟨t, p1, l⟩ := ha
  refine ⟨tCall (spX T K cl g) [] E0 t, fun i0 => by have e := k i0; subst e; exact pe_call (G i0) (hr i0) (hg i0) (hm i0) hk hb .nil passN (p1 i0) hdb (he i0) (hpl i0), ?_⟩
  intro F0 H0 σ F H ρ d S h Q q
  unfold mA at h
  obtain ⟨xs, e1, h⟩ := Option.bind_eq_some_iff.mp h
  unfold mVal at h
  obtain ⟨r, e2, h⟩ := Option.bind_eq_some_iff.mp h
  refine l F0 H0 σ F H ρ xs S e1 _ fun vs F1 H1 g1 r1 => ?_
  cases r with
  | val d' =>
    cases h
    exact ⟨F1, xs, .val d, g1.s, by rw [List.append_nil]; exact r1, e2, fun d e v F2 H2 g2 r2 => by cases e; exact q v F2 H2 (g1.trans g2) r2, fun n e => by cases e⟩
  | exc n => cases h
def mRetX (a : M Res) : M Out := fun ρ => (a ρ).bind fun r => match r with
  | .val d => some (.rt d)
  | .exc n => some (.ex n ρ)
def mExprX (a : M Res) : M Out := fun ρ => (a ρ).bind fun r => match r with
  | .val _ => some (.nx ρ)
  | .exc n => some (.ex n ρ)
theorem xs_retX {e : Expr} {a : M Res} {pos : Pos} (ha : XDX X T K W e a) : XS X T K W (.Return (some e) pos) (mRetX a) := by
  obtain ⟨t, p, l⟩ := ha
  refine ⟨_, fun i => ps_ret (p i), ?_⟩
  intro F0 H0 σ F H ρ o De S h Q
  unfold mRetX at h
  obtain ⟨r, e1, h⟩ := Option.bind_eq_some_iff.mp h
  refine l F0 H0 σ F H ρ r S e1 _ (fun d e v F1 H1 g1 r1 => ?_) (fun n e F1 H1 g1 => ?_)
  · subst e
    cases h
    exact Q v F1 H1 (S.g.trans g1) r1
  · subst e
    cases h
    exact Q σ F1 H1 (S.grow g1) g1.f
theorem xs_exprX {e : Expr} {a : M Res} {pos : Pos} (ha : XDX X T K W e a) (hs : ∀ i0, swapsWith e none pos.line (X i0).env = pure false := by intro _; rfl) : XS X T K W (.Expr e pos) (mExprX a) := by
  obtain ⟨t, p, l⟩ := ha
  refine ⟨tDrop t, fun i => ps_expr (p i) (hs i), ?_⟩
  intro F0 H0 σ F H ρ o De S h Q
  unfold mExprX at h
  obtain ⟨r, e1, h⟩ := Option.bind_eq_some_iff.mp h
  refine l F0 H0 σ F H ρ r S e1 _ (fun d e v F1 H1 g1 r1 => ?_) (fun n e F1 H1 g1 => ?_)
  · subst e
    cases h
    exact Q σ F1 H1 (S.grow g1) g1.f
  · subst e
    cases h
    exact Q σ F1 H1 (S.grow g1) g1.f
end
end Pd

namespace Pd
open PySem PySem.Spec PyProof.Rows L2
/-! ### the caught error in a slot; try .. except C as e -/
/-- the context holds the caught error: its class D -/
def Caught (X : Cx) (a D : Addr) : Prop := ∃ oe, (a, oe) ∈ X.pn ∧ Zc (.ref D) none oe ∧ (∃ vs, oe.data = Data.fields vs) ∧ L2H.Hot1 X.A (a, oe)
def mIs (a : Addr) (i : Nat) (b : Bool) : M D := fun ρ => match ρ[i]? with
  | some (.raw a') => if a' = a then some (.bool b) else none
  | _ => none
section
variable {ι : Type} {T : List (Addr × Str)} {K : PySem.W.Frag} {W : WN} {X : ι → Cx}
theorem xd_isE {a D : Addr} {b : Bool} (i : Nat) {c : V} {cv : Value} {x : Str} {e2 : Expr} {p px pos : Pos} (hX : ∀ i0, Caught (X i0) a D) (C : ExcC K D) (hk : PySem.W.kitOne K (.ref D) cv = some b) (hcv : ∀ u, L2.RelV c u → u = cv) (h2 : ∀ i0, PE (X i0) e2 (tC c)) (hm : ∀ i0, (X i0).mg "isinstance" = none)
    (hN : ∀ i0, (X i0).N[i]? = some x := by intro _; rfl) (hv : ∀ i0, Vis (X i0).env.scope x := by intro _; first | exact Or.inl rfl | exact Or.inr (Or.inl rfl) | exact Or.inr (Or.inr rfl)) (hd : (x == ("__debug__" : Str)) = false := by decide) (hcd : (x == ("__classdict__" : Str)) = false := by decide) (hg : ∀ i0, Gl (X i0) "isinstance" := by intro _; rfl)
    (he2 : ∀ i0, starEach [e2] (X i0).env = (false, eval e2 (X i0).env) :: starEach [] (X i0).env := by intro _; rfl) (he : ∀ i0, starEach [.Name x px, e2] (X i0).env = (false, eval (.Name x px) (X i0).env) :: starEach [e2] (X i0).env := by intro _; rfl) (hpl : ∀ i0, (backTo pos (starEach [e2] (X i0).env)).any (·.1) = false := by intro _; rfl) (k : ∀ i0, (X i0).K = K := by intro _; rfl) :
    XD X T K (.Call (.Name "isinstance" p) [.Name x px, e2] [] pos) (mIs a i b) := by
  refine ⟨tCB (rIsE K D a) (tCons (tVar i) (tCons (tC c) tNil)), fun i0 => ?_, ?_⟩
  · have e := k i0
    subst e
    obtain ⟨oe, h1, h3, h4, _⟩ := hX i0
    exact pe_callB (call_isP h1 C h3 h4) (hg i0) (hm i0) (by decide +kernel) (pa_cons (pe_var (hN i0) (hv i0) hd hcd) (pa_cons (h2 i0) pa_nil (he2 i0)) (he i0)) (by decide) (by decide) (he i0) (hpl i0)
  · intro F0 H0 σ F H ρ d S h Q q
    unfold mIs at h
    split at h
    · rename_i a' hi
      split at h
      · rename_i e
        cases h
        subst e
        exact ⟨_, S.raw i _ hi, c, cv, b, rfl, hcv, hk, q _ F H (Grow.refl S.s) (.bl b)⟩
      · cases h
    · cases h
end
/-- a def that gets the caught error alone -/
def startR (nl : Nat) (a : Addr) : Fr := .raw a :: List.replicate (nl - 1) .no
def spP (T : List (Addr × Str)) (K : PySem.W.Frag) (nl : Nat) (m : Addr → M Out) : Addr → List V → Hp → VK → Prop := fun a vs H Q => ∃ (F : Hp) (d : D), vs = [.ref a] ∧ Sub T F H ∧ m a (startR nl a) = some (.rt d) ∧ ∀ v F' H', Grow T F H F' H' → Rp K F' v d → Q v H'
theorem startR_state {T : List (Addr × Str)} {K : PySem.W.Frag} {F H : Hp} {N : List Str} {a : Addr} (s : Sub T F H) (hn : 0 < N.length) : State T K F H (L2.start N [.ref a]) F H (startR N.length a) where
  g := Grow.refl s
  ln := by
    unfold startR L2.start
    simp only [List.length_cons, List.length_replicate, List.length_append, List.length_map, List.length_nil]
    omega
  va := fun i d h => by
    unfold startR at h
    cases i with
    | zero => cases h
    | succ i =>
      rw [List.getElem?_cons_succ, List.getElem?_replicate] at h
      split at h <;> cases h
  ow := fun i ds h => by
    unfold startR at h
    cases i with
    | zero => cases h
    | succ i =>
      rw [List.getElem?_cons_succ, List.getElem?_replicate] at h
      split at h <;> cases h
  dj := fun i j ds es c b h => by
    unfold startR at h
    cases i with
    | zero => cases h
    | succ i =>
      rw [List.getElem?_cons_succ, List.getElem?_replicate] at h
      split at h <;> cases h
  raw := fun i c h => by
    unfold startR at h
    cases i with
    | zero => cases h; rfl
    | succ i =>
      rw [List.getElem?_cons_succ, List.getElem?_replicate] at h
      split at h <;> cases h
section
variable {P : Program} {w : World} {T : List (Addr × Str)} {K : PySem.W.Frag} {mg : Str → Option Value} {base : Heap}
theorem fnPD {x qual y : Str} {st : Stmt} {f D : Addr} {fd : FuncData} {N : List Str} {k : Nat} {m : Addr → M Out} (F : Fun K x qual st f fd) (S : FnScope N [y] (defScope st)) (hn : 0 < N.length)
    (hb : ∀ (cdv : Value) (A : Around) (outer : List Env) (s : Shared) (H : Hp) (p : Addr × Obj), L2H.RoomH k (A.deeper (envOfC qual (defScope st) s.heap.objs.size f cdv)) → Caught (L2H.cxH CX0 P w K mg base N qual (defScope st) f cdv A outer s H E0 p) p.1 D →
      XSs (fun _ : Unit => L2H.cxH CX0 P w K mg base N qual (defScope st) f cdv A outer s H E0 p) T K W0 (defBody st) (m p.1)) :
    FnP P w K mg base (k + 1) f fd [y] D (spP T K N.length m) := by
  refine fn_ofP F S fun cdv A outer s H vs Q p hh hz hr h => ?_
  obtain ⟨F0, d, e, s0, e1, q⟩ := h
  subst e
  have hc : Caught (L2H.cxH CX0 P w K mg base N qual (defScope st) f cdv A outer s H E0 p) p.1 D := ⟨p.2, List.mem_singleton.mpr rfl, hz, hh.2.imp fun vs h => h.1, hh⟩
  obtain ⟨t, pt, l⟩ := hb cdv A outer s H p hr hc
  refine ⟨t, pt (), ?_⟩
  refine l F0 H _ F0 H _ _ _ (startR_state s0 hn) e1 ?_
  exact fun v F1 H1 g1 r1 => q v F1 H1 g1 r1
end
def mP (nl : Nat) (m : Addr → M Out) (a : Addr) (i : Nat) : M D := fun ρ => match ρ[i]? with
  | some (.raw a') => if a' = a then (m a (startR nl a)).bind fun o => match o with
    | .rt d => some d
    | _ => none
    else none
  | _ => none
section
variable {ι : Type} {T : List (Addr × Str)} {K : PySem.W.Frag} {W : WN} {X : ι → Cx}
theorem xd_callP {a D : Addr} {nl k : Nat} {m : Addr → M Out} (i : Nat) {f : Addr} {fd : FuncData} {st : Stmt} {x y z : Str} {q px pos : Pos} (hX : ∀ i0, Caught (X i0) a D) (G : ∀ i0, FnP (X i0).prog (X i0).w K (X i0).mg (X i0).base k f fd [y] D (spP T K nl m)) (F : Fun K z z st f fd) (hr : ∀ i0, L2H.RoomH k (X i0).A)
    (hm : ∀ i0, (X i0).mg x = some (.ref f)) (hb : Binds K fd [y] []) {v : Str} (hN : ∀ i0, (X i0).N[i]? = some v := by intro _; rfl) (hv : ∀ i0, Vis (X i0).env.scope v := by intro _; first | exact Or.inl rfl | exact Or.inr (Or.inl rfl) | exact Or.inr (Or.inr rfl)) (hd : (v == ("__debug__" : Str)) = false := by decide) (hcd : (v == ("__classdict__" : Str)) = false := by decide)
    (hg : ∀ i0, Gl (X i0) x := by intro _; rfl) (hdb : (x == ("__debug__" : Str)) = false := by decide) (he : ∀ i0, starEach [.Name v px] (X i0).env = (false, eval (.Name v px) (X i0).env) :: starEach [] (X i0).env := by intro _; rfl) (k0 : ∀ i0, (X i0).K = K := by intro _; rfl) :
    XD X T K (.Call (.Name x q) [.Name v px] [] pos) (mP nl m a i) := by
  refine ⟨tCallP (spP T K nl m) a (tCons (tVar i) tNil), fun i0 => ?_, ?_⟩
  · have e := k0 i0
    subst e
    obtain ⟨oe, h1, h3, h4, h5⟩ := hX i0
    exact pe_callP h1 h5 h3 (fun a vs H Q h => by obtain ⟨F, d, e, _⟩ := h; rw [e]; rfl) (G i0) F (hr i0) (hg i0) (hm i0) hb (pa_cons (pe_var (hN i0) (hv i0) hd hcd) pa_nil (he i0)) hdb (he i0)
  · intro F0 H0 σ F H ρ d S h Q q
    unfold mP at h
    split at h
    · rename_i a' hi
      split at h
      · rename_i e
        subst e
        obtain ⟨o, e1, h⟩ := Option.bind_eq_some_iff.mp h
        split at h
        · cases h
          exact ⟨_, S.raw i _ hi, F, d, rfl, S.s, e1, q⟩
        · cases h
      · cases h
    · cases h
end
open Classical in
noncomputable def anyRt (p : D → Prop) : Option Out := if h : ∃ d, p d then some (.rt (Classical.choose h)) else none
theorem anyRt_some {p : D → Prop} {o : Out} (h : anyRt p = some o) : ∃ d, o = .rt d ∧ p d := by
  unfold anyRt at h
  split at h
  · rename_i hd
    cases h
    exact ⟨_, rfl, Classical.choose_spec hd⟩
  · cases h
theorem anyRt_of {p : D → Prop} {d : D} (h : p d) (u : ∀ e, p e → e = d) : anyRt p = some (.rt d) := by
  have hd : ∃ d, p d := ⟨d, h⟩
  unfold anyRt
  rw [dif_pos hd, u _ (Classical.choose_spec hd)]
/-- try: body / except C as e: .. return ..: the suite must return, whatever the error's address -/
noncomputable def mTry (mb : M Out) (i : Nat) (ct : Str → Option Bool) (mh : Addr → Str → M Out) : M Out := fun ρ => (mb ρ).bind fun o => match o with
  | .ex n ρ1 => match ct n with
    | some true => anyRt fun d => i < ρ1.length ∧ ∀ a, mh a n (ρ1.set i (.raw a)) = some (.rt d)
    | some false => some (.ex n ρ1)
    | none => none
  | o => some o
theorem mTry_rt {mb : M Out} {i : Nat} {ct : Str → Option Bool} {mh : Addr → Str → M Out} {ρ ρ1 : Fr} {n : Str} {d : D} (h1 : mb ρ = some (.ex n ρ1)) (h2 : ct n = some true) (hi : i < ρ1.length) (h3 : ∀ a, mh a n (ρ1.set i (.raw a)) = some (.rt d)) : mTry mb i ct mh ρ = some (.rt d) := by
  unfold mTry
  rw [h1, Option.bind_some]
  simp only [h2]
  refine anyRt_of ⟨hi, h3⟩ fun e he => ?_
  have z := he.2 0
  rw [h3 0] at z
  exact (Out.rt.inj (Option.some.inj z)).symm
theorem mTry_nx {mb : M Out} {i : Nat} {ct : Str → Option Bool} {mh : Addr → Str → M Out} {ρ ρ1 : Fr} (h1 : mb ρ = some (.nx ρ1)) : mTry mb i ct mh ρ = some (.nx ρ1) := by
  unfold mTry
  rw [h1, Option.bind_some]
section
variable {ι : Type} {T : List (Addr × Str)} {K : PySem.W.Frag} {W : WN} {X : ι → Cx} {cl : Str → Addr}
theorem State.setRaw {F0 H0 F H : Hp} {σ : St} {ρ : Fr} {i : Nat} {a : Addr} (S : State T K F0 H0 σ F H ρ) (hi : i < ρ.length) : State T K F0 H0 (σ.set i (some (.ref a))) F H (ρ.set i (.raw a)) := by
  have S1 := S.unset (i := i) (o := some (.ref a))
  have e : ∀ j, j ≠ i → (ρ.set i (.raw a))[j]? = (ρ.set i .no)[j]? := fun j h => by rw [List.getElem?_set_ne (Ne.symm h), List.getElem?_set_ne (Ne.symm h)]
  have at_ : (ρ.set i (.raw a))[i]? = some (.raw a) := List.getElem?_set_self hi
  refine ⟨S1.g, by rw [List.length_set, List.length_set]; exact S.ln, fun j d h => ?_, fun j ds h => ?_, fun j k ds es b c h1 h2 h3 h4 => ?_, fun j b h => ?_⟩
  · by_cases hj : j = i
    · subst hj; rw [at_] at h; cases h
    · rw [e j hj] at h; exact S1.va j d h
  · by_cases hj : j = i
    · subst hj; rw [at_] at h; cases h
    · rw [e j hj] at h; exact S1.ow j ds h
  · by_cases hj : j = i
    · subst hj; rw [at_] at h1; cases h1
    · by_cases hk : k = i
      · subst hk; rw [at_] at h2; cases h2
      · rw [e j hj] at h1
        rw [e k hk] at h2
        exact S1.dj j k ds es b c h1 h2 h3 h4
  · by_cases hj : j = i
    · subst hj
      rw [at_] at h
      cases h
      exact List.getElem?_set_self (by rw [← S.ln]; exact hi)
    · rw [e j hj] at h; exact S1.raw j b h
abbrev TrI (X : ι → Cx) (Wb : WX) := { q : ι × List (Addr × Obj) × (Value → Shared → Prop) // L2N.Takes ((X q.1).tr q.2.1 q.2.2) Wb ∧ PassesOwn (model (X q.1).prog (X q.1).w) (X q.1).A (X q.1).env q.2.2 }
abbrev SuI (X : ι → Cx) (C : Addr) := { q : ι × Obj × List (Addr × Obj) // L2N.Zn (.ref C) none q.2.1 ∧ ∃ vs, q.2.1.data = Data.fields vs }
theorem xs_tryAs {x n : Str} {c : Value} (i : Nat) {body suite : List Stmt} {b₀ : Stmt} {np pos pos' : Pos} {mb : M Out} {mh : Addr → Str → M Out} (ct : Str → Option Bool) (tk : ∀ i0, L2N.Takes (X i0) (WU cl W)) (hN : ∀ i0, (X i0).N.Nodup) (hc : ∀ i0, Names (X i0) x c) (hct : ∀ m b, ct m = some b → PySem.W.exmOne K (.ref (cl m)) c = some b)
    (hb : ∀ Wb : WX, XSs (fun q : TrI X Wb => (X q.1.1).tr q.1.2.1 q.1.2.2) T K (fun m σ H => Wb (.ref (cl m)) none σ H) body mb)
    (hh : ∀ (a : Addr) (m : Str), ct m = some true → XSs (fun q : SuI X (cl m) => (X q.1.1).suite a ((a, q.1.2.1) :: q.1.2.2)) T K W0 (b₀ :: suite) (mh a m))
    (hs : ∀ i0, (X i0).stack = (X i0).env :: (X i0).outer := by intro _; rfl) (hf : ∀ i0, (X i0).env.frame = some (X i0).env.locals := by intro _; rfl) (hi : ∀ i0, (X i0).N[i]? = some n := by intro _; rfl) (hln : ∀ i0, (X i0).env.kindOf n = some .local := by intro _; rfl) (k : ∀ i0, (X i0).K = K := by intro _; rfl) :
    XS X T K W (.Try body [.ExceptHandler (some (.Name x np)) (some n) (b₀ :: suite) pos'] [] [] pos) (mTry mb i ct mh) := by
  let tb : WX → TS := fun Wb => Classical.choose (hb Wb)
  have tb_spec : ∀ Wb, (∀ q : TrI X Wb, PSs ((X q.1.1).tr q.1.2.1 q.1.2.2) body (tb Wb)) ∧ SL T K (fun m σ H => Wb (.ref (cl m)) none σ H) (tb Wb) mb := fun Wb => Classical.choose_spec (hb Wb)
  let ts1 : Addr → Str → TS := fun a m => open Classical in if h : ct m = some true then Classical.choose (hh a m h) else fun _ _ _ => False
  let ts : Addr → Value → Option Addr → TS := fun a cls d De σ H => ∃ m, cls = .ref (cl m) ∧ d = none ∧ ct m = some true ∧ ts1 a m De σ H
  refine ⟨fun De σ H => tb (wAs K c i ts (WU cl W) De) De σ H, fun i0 => ?_, ?_⟩
  · have e := k i0
    subst e
    refine L2N.ps_try_as (hs i0) (hf i0) (hN i0) (hi i0) (hln i0) (hc i0) (tk i0) (fun Wb pn xe t p => (tb_spec Wb).1 ⟨(i0, pn, xe), t, p⟩) fun a oe cls d pn hz hfl => ?_
    constructor
    intro pins s σ H De I ⟨m, e1, e2, e3, ht⟩
    subst e1 e2
    have sp := (Classical.choose_spec (hh a m e3)).1 ⟨(i0, oe, pn), hz, hfl⟩
    have e4 : ts1 a m = Classical.choose (hh a m e3) := dif_pos e3
    rw [e4] at ht
    exact sp.run pins s σ H De I ht
  · intro F0 H0 σ F H ρ o De S h Q
    unfold mTry at h
    obtain ⟨o1, e1, h⟩ := Option.bind_eq_some_iff.mp h
    refine (tb_spec (wAs K c i ts (WU cl W) De)).2 F0 H0 σ F H ρ o1 De S e1 ?_
    cases o1 with
    | nx ρ1 => cases h; exact Q
    | rt d => cases h; exact Q
    | bk ρ1 => cases h; exact Q
    | ct ρ1 => cases h; exact Q
    | ex m ρ1 =>
      intro σ1 F1 H1 S1 s1
      cases q : ct m with
      | none => simp only [q] at h; cases h
      | some b =>
        refine ⟨b, hct m b q, fun hb1 a ha => ?_, fun hb1 => ?_⟩
        · subst hb1
          simp only [q] at h
          obtain ⟨d, e2, hl, hd⟩ := anyRt_some h
          subst e2
          refine ⟨m, rfl, rfl, q, ?_⟩
          have e4 : ts1 a m = Classical.choose (hh a m q) := dif_pos q
          rw [e4]
          exact (Classical.choose_spec (hh a m q)).2 F0 H0 _ F1 H1 _ _ _ (S1.setRaw hl) (hd a) fun v F2 H2 g2 r2 => Q v F2 H2 g2 r2
        · subst hb1
          simp only [q] at h
          cases h
          exact ⟨m, rfl, rfl, Q σ1 F1 H1 S1 s1⟩
end
end Pd

namespace Pd
open PySem PySem.Spec PyProof.Rows L2
/-! ### list.count, list.index of truths -/
def rCntB (K : PySem.W.Frag) : V → List V → Hp → VK → Prop := fun x xs H Q => ∃ (p : Addr) (bs : List Bool) (k : Bool), x = .ref p ∧ xs = [.bl k] ∧ SqL K H p (bs.map V.bl) ∧ Q (.int (bs.count k : Nat)) H
theorem vals_bools : ∀ {bs : List Bool} {vs : List Value}, Vals (bs.map V.bl) vs → vs = bs.map Value.bool
  | [], _, .nil => rfl
  | b :: bs, _, .cons h r => by
    have e : _ = Value.bool b := h
    subst e
    rw [vals_bools r]
    rfl
theorem reads_bools {h : Heap} : ∀ bs : List Bool, ReadsAll h (bs.map Value.bool) (bs.map PyData.bool) []
  | [] => .nil
  | b :: bs => .cons (as := []) (bs := []) (.bool b) (reads_bools bs)
theorem has_bools : ∀ bs : List Bool, (bs.map PyData.bool).all Spec.Shape.bool.has = true
  | [] => rfl
  | b :: bs => by
    rw [List.map_cons, List.all_cons, has_bools bs]
    rfl
theorem countIn_bools (k : Bool) : ∀ bs : List Bool, Spec.countIn (.bool k) (bs.map PyData.bool) = ((bs.count k : Nat) : Int)
  | [] => rfl
  | b :: bs => by
    rw [List.map_cons, List.count_cons]
    simp only [Spec.countIn, countIn_bools k bs]
    cases b <;> cases k <;> simp [Spec.same] <;> omega
theorem mt_countB {X : Cx} : MtR X "list.count" (rCntB X.K) := by
  intro pins s σ H x xs v us Q I r1 rv q
  obtain ⟨p, bs, k, rfl, rfl, hs, q⟩ := q
  have e1 : v = Value.ref p := r1
  subst e1
  obtain ⟨u, rfl, r2⟩ : ∃ u, us = [u] ∧ L2.RelV (.bl k) u := by
    cases rv with
    | cons h r => cases r; exact ⟨_, rfl, h⟩
  have e2 : u = Value.bool k := r2
  subst e2
  obtain ⟨its, vv, ⟨o, n, g1, g2, g3, g4⟩, hl⟩ := I.list hs
  have e3 := vals_bools vv
  subst e3
  refine PyProof.Rows.count_list_bools (hp := s.heap) (as := []) ⟨o, g1, g2, n, g4⟩ (reads_bools bs) (has_bools bs) ?_
  rw [countIn_bools]
  exact ⟨.int (bs.count k : Nat), H, I.tok _, ⟨_, rfl⟩, q⟩
def dCountB : D → D → Option D
  | .list xs, .bool k => (asBools xs).map fun bs => .int (bs.count k : Nat)
  | _, _ => none
def dIndexB : D → D → Option D
  | .list xs, .bool k => (asBools xs).bind fun bs => if k ∈ bs then some (.int (bs.idxOf k : Nat)) else none
  | _, _ => none
section
variable {ι : Type} {T : List (Addr × Str)} {K : PySem.W.Frag} {X : ι → Cx}
theorem xd_countB {o e : Expr} {a b : M D} {apos cpos : Pos} (ha : XD X T K o a) (hb : XD X T K e b) (h1 : ∀ i0, attributeBase o (Str.ofString "count") (X i0).env (eval o (X i0).env) = eval o (X i0).env := by intro _; rfl)
    (h2 : ∀ i0, (((backTo cpos (starEach (e :: []) (X i0).env)).all fun x => !x.1) && (backToKw cpos (keywordEach [] (X i0).env)).all (·.1.isSome) && decide ((e :: ([] : List Expr)).length + ([] : List Keyword).length + (if ([] : List Keyword).isEmpty = true then 0 else 1) < 30)) = true := by intro _; rfl)
    (h3 : (apos.endLine == cpos.line) = true := by rfl) (h4 : ∀ i0, starEach (e :: []) (X i0).env = (false, eval e (X i0).env) :: starEach [] (X i0).env := by intro _; rfl) (h5 : ∀ i0, (backTo cpos (starEach [] (X i0).env)).any (·.1) = false := by intro _; rfl) (k : ∀ i0, (X i0).K = K := by intro _; rfl) :
    XD X T K (.Call (.Attribute o (Str.ofString "count") apos) [e] [] cpos) (m2 dCountB a b) := by
  obtain ⟨t, p, l⟩ := ha
  obtain ⟨u, p2, l2⟩ := hb
  refine ⟨tBM K "list" (rCntB K) t (tCons u tNil), fun i0 => by
    have e := k i0
    subst e
    exact pe_bm PySem.F.plainAttrs_list PySem.F.slot_list_count PySem.F.type_list_count mt_countB (p i0) (pa_cons (p2 i0) pa_nil (h4 i0)) (h1 i0) (h2 i0) h3 (h4 i0) (h5 i0), ?_⟩
  intro F0 H0 σ F H ρ d S h Q q
  unfold m2 at h
  obtain ⟨x, e1, h⟩ := Option.bind_eq_some_iff.mp h
  obtain ⟨y, e2, h⟩ := Option.bind_eq_some_iff.mp h
  refine l F0 H0 σ F H ρ x S e1 _ fun v F1 H1 g1 r1 => ?_
  cases x <;> (first | (cases y <;> simp only [dCountB] at h <;> cases h; done) | skip)
  cases y <;> simp only [dCountB] at h <;> try (cases h; done)
  rename_i xs kk
  obtain ⟨bs, e3, h⟩ := Option.map_eq_some_iff.mp h
  subst h
  cases r1 with
  | lst hs ra =>
    obtain ⟨e4, _⟩ := asBools_rp ra e3
    subst e4
    refine ⟨.inl ⟨rfl, _, g1.s.same.seq hs⟩, ?_⟩
    refine l2 F0 H0 σ F1 H1 ρ _ (S.grow g1) e2 _ fun u F2 H2 g2 r2 => ?_
    cases r2
    exact ⟨_, bs, kk, rfl, rfl, g2.s.same.seq (g2.f.seq hs), q _ F2 H2 (g1.trans g2) (.int _)⟩
theorem xd_indexB {o e : Expr} {a b : M D} {apos cpos : Pos} (ha : XD X T K o a) (hb : XD X T K e b) (h1 : ∀ i0, attributeBase o (Str.ofString "index") (X i0).env (eval o (X i0).env) = eval o (X i0).env := by intro _; rfl)
    (h2 : ∀ i0, (((backTo cpos (starEach (e :: []) (X i0).env)).all fun x => !x.1) && (backToKw cpos (keywordEach [] (X i0).env)).all (·.1.isSome) && decide ((e :: ([] : List Expr)).length + ([] : List Keyword).length + (if ([] : List Keyword).isEmpty = true then 0 else 1) < 30)) = true := by intro _; rfl)
    (h3 : (apos.endLine == cpos.line) = true := by rfl) (h4 : ∀ i0, starEach (e :: []) (X i0).env = (false, eval e (X i0).env) :: starEach [] (X i0).env := by intro _; rfl) (h5 : ∀ i0, (backTo cpos (starEach [] (X i0).env)).any (·.1) = false := by intro _; rfl) (k : ∀ i0, (X i0).K = K := by intro _; rfl) :
    XD X T K (.Call (.Attribute o (Str.ofString "index") apos) [e] [] cpos) (m2 dIndexB a b) := by
  obtain ⟨t, p, l⟩ := ha
  obtain ⟨u, p2, l2⟩ := hb
  refine ⟨tBM K "list" (rIndex K) t (tCons u tNil), fun i0 => by
    have e := k i0
    subst e
    exact pe_bm PySem.F.plainAttrs_list PySem.F.slot_list_index PySem.F.type_list_index mt_index (p i0) (pa_cons (p2 i0) pa_nil (h4 i0)) (h1 i0) (h2 i0) h3 (h4 i0) (h5 i0), ?_⟩
  intro F0 H0 σ F H ρ d S h Q q
  unfold m2 at h
  obtain ⟨x, e1, h⟩ := Option.bind_eq_some_iff.mp h
  obtain ⟨y, e2, h⟩ := Option.bind_eq_some_iff.mp h
  refine l F0 H0 σ F H ρ x S e1 _ fun v F1 H1 g1 r1 => ?_
  cases x <;> (first | (cases y <;> simp only [dIndexB] at h <;> cases h; done) | skip)
  cases y <;> simp only [dIndexB] at h <;> try (cases h; done)
  rename_i xs kk
  obtain ⟨bs, e3, h⟩ := Option.bind_eq_some_iff.mp h
  split at h
  · rename_i hk
    cases h
    cases r1 with
    | lst hs ra =>
      obtain ⟨e4, _⟩ := asBools_rp ra e3
      subst e4
      refine ⟨.inl ⟨rfl, _, g1.s.same.seq hs⟩, ?_⟩
      refine l2 F0 H0 σ F1 H1 ρ _ (S.grow g1) e2 _ fun u F2 H2 g2 r2 => ?_
      cases r2
      have hlt := List.idxOf_lt_length_of_mem hk
      refine ⟨_, bs.map V.bl, .bl kk, bs.idxOf kk, .bl kk, rfl, rfl, g2.s.same.seq (g2.f.seq hs), rfl, ?_, ?_, ?_, fun m z' hm hz => ?_, q _ F2 H2 (g1.trans g2) (.int _)⟩
      · rw [List.all_map, List.all_eq_true]
        intro b _
        rfl
      · rw [List.getElem?_map, List.getElem?_eq_getElem hlt, List.getElem_idxOf hlt]
        rfl
      · cases kk <;> rfl
      · rw [List.getElem?_map] at hz
        obtain ⟨b', hb', rfl⟩ := Option.map_eq_some_iff.mp hz
        have ne : b' ≠ kk := fun z => by
          subst z
          obtain ⟨q1, q2⟩ := List.getElem?_eq_some_iff.mp hb'
          have h3 := List.not_of_lt_findIdx (p := fun x => x == b') (xs := bs) (i := m) hm
          simp [q2] at h3
        cases b' <;> cases kk <;> first | rfl | exact absurd rfl ne
  · cases h
end
end Pd

namespace Pd
open PySem PySem.Spec PyProof.Rows L2
theorem takesN_0 {X : Cx} {cl : Str → Addr} : L2N.Takes X (WU cl W0) := by
  intro u s' ⟨a, B, sI, pins, σ, H, cls, d, h1, h2, h3, h4, h5, h6, h7, h8, n, e1, e2, z⟩
  exact z.elim
theorem caught_suite {ι : Type} {X : ι → Cx} {a C : Addr} (q : SuI X C) : Caught ((X q.1.1).suite a ((a, q.1.2.1) :: q.1.2.2)) a C := by
  obtain ⟨⟨i, oe, pn⟩, ⟨h1, h2, h3⟩, vs, hv⟩ := q
  refine ⟨oe, List.mem_cons_self, ⟨h1, h2⟩, ⟨vs, hv⟩, rfl, ?_⟩
  exact ⟨vs, hv, h3 vs hv⟩
theorem roomH_of {j k : Nat} {A : Around} {h : Option Value} (r : Room j A) (hk : k ≤ j) : L2H.RoomH k (A.mark h) := ⟨by have := r.dp; show A.depth + 3 * k + 5 < _; omega, by have := r.un; show A.units + 16 * k + 200 < _; omega⟩
theorem room65H {k : Nat} {A : Around} (r : L2H.RoomH k A) : A.units + 65 < cLine := by have := r.un; omega
theorem takesN_wu {X : Cx} {cl : Str → Addr} {Wb : WX} (h : L2N.Takes X Wb) : L2N.Takes X (WU cl fun m σ H => Wb (.ref (cl m)) none σ H) := takesN_imp h fun c d σ H ⟨n, e1, e2, h⟩ => by subst e1 e2; exact h
theorem room65S {k : Nat} {A : Around} {h : Option Value} (r : Room k A) : (A.mark h).units + 65 < cLine := by have := r.un; show A.units + 65 < cLine; omega
theorem kit_own {K : PySem.W.Frag} {S C : Addr} {b : Bool} (h2 : PySem.W.isClsIn K C = true) (h3 : PySem.W.typeIn K (.ref C) = some (.type "type")) (h4 : PySem.W.subIn K (.ref S) (.ref C) = some b) (h5 : PySem.W.subIn K (.ref S) (.ref S) = some true) : PySem.W.kitOne K (.ref S) (.ref C) = some b := by
  unfold PySem.W.kitOne
  by_cases e : (Value.ref S == Value.ref C) = true
  · rw [if_pos e]
    have e2 : Value.ref S = Value.ref C := eq_of_beq e
    rw [← e2] at h4
    rw [h5] at h4
    exact h4
  · rw [if_neg e]
    have h2' : (PySem.W.clsIn K C).isSome = true := h2
    have ec : ((PySem.W.clsIn K C).isSome && PySem.W.typeIn K (.ref C) == some (.type "type")) = true := by rw [h2', h3]; rfl
    show (if ((PySem.W.clsIn K C).isSome && PySem.W.typeIn K (.ref C) == some (.type "type")) = true then PySem.W.subIn K (.ref S) (.ref C) else none) = some b
    rw [if_pos ec]
    exact h4
theorem kit_tyE {K : PySem.W.Frag} {S : Addr} {T : String} {b : Bool} (hm : PySem.W.kitMeta T = true) (h4 : PySem.W.subIn K (.ref S) (.type T) = some b) : PySem.W.kitOne K (.ref S) (.type T) = some b := by
  unfold PySem.W.kitOne
  rw [if_neg (by intro z; have := eq_of_beq z; cases this)]
  show (if PySem.W.kitMeta T = true then PySem.W.subIn K (.ref S) (.type T) else none) = some b
  rw [if_pos hm]
  exact h4
theorem exm_own {K : PySem.W.Frag} {S C : Addr} {b : Bool} (h1 : PySem.W.subIn K (.ref C) (.type "BaseException") = some true) (h2 : PySem.W.isClsIn K C = true) (h3 : PySem.W.typeIn K (.ref C) = some (.type "type")) (h4 : PySem.W.subIn K (.ref S) (.ref C) = some b) : PySem.W.exmOne K (.ref S) (.ref C) = some b := by
  have h2' : (PySem.W.clsIn K C).isSome = true := h2
  have e1 : (PySem.W.subIn K (.ref C) (.type "BaseException") == some true) = true := by rw [h1]; rfl
  have ec : ((PySem.W.clsIn K C).isSome && PySem.W.typeIn K (.ref C) == some (.type "type")) = true := by rw [h2', h3]; rfl
  show (if (PySem.W.subIn K (.ref C) (.type "BaseException") == some true) = true then (if ((PySem.W.clsIn K C).isSome && PySem.W.typeIn K (.ref C) == some (.type "type")) = true then PySem.W.subIn K (.ref S) (.ref C) else none) else none) = some b
  rw [if_pos e1, if_pos ec]
  exact h4
section
variable {ι : Type} {T : List (Addr × Str)} {K : PySem.W.Frag} {X : ι → Cx}
/-- over a text: its signs -/
def mItS (a : M D) : M (List D) := fun ρ => (a ρ).bind fun x => match x with
  | .str z => some (z.cps.toList.map fun c => .str ⟨#[c]⟩)
  | _ => none
theorem xi_str {tg e : Expr} {a : M D} (ha : XD X T K e a) : XI X T K tg e (mItS a) := by
  obtain ⟨t, p, l⟩ := ha
  refine ⟨iStr t, fun i0 => pi_str (p i0), ?_⟩
  intro F0 H0 σ F H ρ xs S h R q
  unfold mItS at h
  obtain ⟨y, e1, h⟩ := Option.bind_eq_some_iff.mp h
  refine l F0 H0 σ F H ρ y S e1 _ fun v F1 H1 g1 r1 => ?_
  split at h
  · rename_i z
    cases h
    cases r1
    refine ⟨z, rfl, q _ F1 H1 g1 ⟨fun i H' s hi => ?_, fun i H' s hi => ?_, fun i d F2 H2 x H3 s1 s2 hd hy => ?_⟩⟩
    · rw [List.length_map, Array.length_toList] at hi
      exact hi
    · rw [List.length_map, Array.length_toList] at hi
      exact hi
    · obtain ⟨e, hy⟩ := hy
      subst e
      rw [List.getElem?_map] at hd
      obtain ⟨c, hc, rfl⟩ := Option.map_eq_some_iff.mp hd
      obtain ⟨c', hc', e⟩ := hy
      rw [Array.getElem?_toList, hc'] at hc
      cases hc
      subst e
      exact ⟨F2, Grow.refl s2, .str _⟩
  · cases h
end
end Pd

/-! Md: mutable data over Pd. What a slot holds (W: data that stays, or a cell of the store), what a cell holds, how a store stands in the heap. -/
namespace Md
open PySem PySem.Spec PyProof.Rows L2 Pd

inductive W where
  | da (d : D)
  | rf (n : Nat)
inductive Cell where
  | lst (ws : List W)
  | dct (kws : List (Key × W))
  | ins (c : Nat) (ws : List W)
  | deq (k : Int) (ns : List Int)
  | gone
abbrev Sto := List Cell
abbrev St := L2.St
/-- the classes by number: where each stands, its attributes in the order in which __init__ sets them; the errors by name -/
structure Cf where
  ad : Nat → Addr
  nm : Nat → List Str
  ex : Str → Addr

section
variable {α β : Type} {R R' : α → β → Prop}
theorem pr_get : ∀ {xs : List α} {ys : List β} {i : Nat} {y : β}, Paired R xs ys → ys[i]? = some y → ∃ x, xs[i]? = some x ∧ R x y
  | _, _, _, _, .nil, e => by simp at e
  | _, _, 0, _, .cons h _, e => by simp at e; subst e; exact ⟨_, rfl, h⟩
  | _, _, i + 1, _, .cons _ r, e => by
    obtain ⟨d, h1, h2⟩ := pr_get (i := i) r (by simpa using e)
    exact ⟨d, by simpa using h1, h2⟩
theorem pr_got : ∀ {xs : List α} {ys : List β} {i : Nat} {x : α}, Paired R xs ys → xs[i]? = some x → ∃ y, ys[i]? = some y ∧ R x y
  | _, _, _, _, .nil, e => by simp at e
  | _, _, 0, _, .cons h _, e => by simp at e; subst e; exact ⟨_, rfl, h⟩
  | _, _, i + 1, _, .cons _ r, e => by
    obtain ⟨d, h1, h2⟩ := pr_got (i := i) r (by simpa using e)
    exact ⟨d, by simpa using h1, h2⟩
theorem pr_append : ∀ {xs xs' : List α} {ys ys' : List β}, Paired R xs ys → Paired R xs' ys' → Paired R (xs ++ xs') (ys ++ ys')
  | _, _, _, _, .nil, s => s
  | _, _, _, _, .cons h r, s => .cons h (pr_append r s)
theorem pr_set {x : α} {y : β} (h : R x y) : ∀ {xs : List α} {ys : List β} (i : Nat), Paired R xs ys → Paired R (xs.set i x) (ys.set i y)
  | _, _, _, .nil => .nil
  | _, _, 0, .cons _ r => .cons h r
  | _, _, i + 1, .cons q r => .cons q (pr_set h i r)
theorem pr_take : ∀ {xs : List α} {ys : List β} (n : Nat), Paired R xs ys → Paired R (xs.take n) (ys.take n)
  | _, _, 0, _ => .nil
  | _, _, _ + 1, .nil => .nil
  | _, _, n + 1, .cons h r => .cons h (pr_take n r)
theorem pr_drop : ∀ {xs : List α} {ys : List β} (n : Nat), Paired R xs ys → Paired R (xs.drop n) (ys.drop n)
  | _, _, 0, r => r
  | _, _, _ + 1, .nil => .nil
  | _, _, n + 1, .cons _ r => pr_drop n r
theorem pr_erase : ∀ {xs : List α} {ys : List β} (n : Nat), Paired R xs ys → Paired R (xs.eraseIdx n) (ys.eraseIdx n)
  | _, _, _, .nil => .nil
  | _, _, 0, .cons _ r => r
  | _, _, n + 1, .cons h r => .cons h (pr_erase n r)
theorem pr_imp (i : ∀ x y, R x y → R' x y) : ∀ {xs : List α} {ys : List β}, Paired R xs ys → Paired R' xs ys
  | _, _, .nil => .nil
  | _, _, .cons h r => .cons (i _ _ h) (pr_imp i r)
theorem pr_len {xs : List α} {ys : List β} (h : Paired R xs ys) : xs.length = ys.length := Paired.length h
end

inductive RW (K : PySem.W.Frag) (F : Hp) (κ : List Addr) : V → W → Prop
  | da {v : V} {d : D} : Rp K F v d → RW K F κ v (.da d)
  | rf {n : Nat} {a : Addr} : κ[n]? = some a → RW K F κ (.ref a) (.rf n)
theorem get_app {α : Type} {l r : List α} {n : Nat} {a : α} (e : l[n]? = some a) : (l ++ r)[n]? = some a := by
  obtain ⟨h, e⟩ := List.getElem?_eq_some_iff.mp e
  rw [List.getElem?_append_left h, List.getElem?_eq_getElem h, e]
theorem RW.mono {K : PySem.W.Frag} {F F' : Hp} {κ r : List Addr} {v : V} {w : W} (s : Same F F') (h : RW K F κ v w) : RW K F' (κ ++ r) v w := by
  cases h with
  | da h => exact .da (h.mono s)
  | rf e => exact .rf (get_app e)
abbrev RWs (K : PySem.W.Frag) (F : Hp) (κ : List Addr) : List V → List W → Prop := Paired (RW K F κ)
abbrev RWp (α : Type) (K : PySem.W.Frag) (F : Hp) (κ : List Addr) : List (α × V) → List (α × W) → Prop := Paired fun p q => p.1 = q.1 ∧ RW K F κ p.2 q.2
/-- a deque of whole numbers -/
def DqI (a : Addr) (k : Int) (ns : List Int) : HO := .ext fun h => ns.length ≤ sizeLine ∧ ∃ (us : List Value), h.get? a = some (recObj "collections.deque" (#[Value.none, rawInt k] ++ us.toArray)) ∧ Vals (ns.map V.int) us
def CellOk (K : PySem.W.Frag) (cl : Cf) (F H : Hp) (κ : List Addr) (a : Addr) : Cell → Prop
  | .lst ws => ∃ vs, H a = some (.lst vs) ∧ F a = Option.none ∧ RWs K F κ vs ws
  | .dct kws => ∃ kvs, H a = some (.dK kvs) ∧ F a = Option.none ∧ RWp Key K F κ kvs kws
  | .ins c ws => ∃ dx vs, H a = some (.ins (cl.ad c) dx vs) ∧ F a = Option.none ∧ vs.map (·.1) = (cl.nm c).take ws.length ∧ ws.length ≤ (cl.nm c).length ∧ RWs K F κ (vs.map (·.2)) ws
  | .deq k ns => H a = some (DqI a k ns) ∧ F a = Option.none ∧ ns.length ≤ sizeLine
  | .gone => ∃ o, F a = some o
structure StOk (K : PySem.W.Frag) (cl : Cf) (F H : Hp) (κ : List Addr) (μ : Sto) : Prop where
  ln : κ.length = μ.length
  nd : κ.Nodup
  ok : ∀ (n : Nat) (c : Cell) (a : Addr), μ[n]? = some c → κ[n]? = some a → CellOk K cl F H κ a c
/-- what may come to pass: the frozen part F grows, new cells come, what is neither frozen nor a cell stays -/
structure Mov (T : List (Addr × Str)) (F H : Hp) (κ : List Addr) (F' H' : Hp) (κ' : List Addr) : Prop where
  f : Same F F'
  c : ∃ r, κ' = κ ++ r ∧ ∀ b ∈ r, Fre (H b) ∧ b ∉ κ
  keep : ∀ b o, H b = some o → noT o → b ∉ κ → H' b = some o
  tabs : Tabs T H → Tabs T H'
  s : Sub T F' H'
  n : ∀ b o, F' b = some o → F b = Option.none → Fre (H b) ∨ b ∈ κ
section
variable {T : List (Addr × Str)} {K : PySem.W.Frag} {cl : Cf} {F H F1 H1 F2 H2 F' H' : Hp} {κ κ1 κ2 κ' : List Addr} {μ : Sto} {v : V} {w : W}
theorem fre_or (o : Option HO) : Fre o ∨ ∃ u, o = some u ∧ noT u := by
  cases o with
  | none => exact .inl (.inl rfl)
  | some u =>
    by_cases z : ∃ ps, u = .tbl ps
    · obtain ⟨ps, rfl⟩ := z; exact .inl (.inr ⟨ps, rfl⟩)
    · exact .inr ⟨u, rfl, fun ps y => z ⟨ps, y⟩⟩
theorem Fre.not {o : Option HO} {u : HO} (h : Fre o) (e : o = some u) (n : noT u) {p : Prop} : p := by
  subst e
  rcases h with h | ⟨ps, h⟩
  · cases h
  · exact absurd (Option.some.inj h) (n ps)
theorem Mov.of (g : Grow T F H F' H') : Mov T F H κ F' H' κ :=
  ⟨g.f, ⟨[], by simp, by simp⟩, fun b o e n _ => g.h.old b o e n, g.h.tabs, g.s, fun b o e q => .inl (g.n b o e q)⟩
theorem Mov.refl (s : Sub T F H) : Mov T F H κ F H κ := .of (Grow.refl s)
theorem Mov.trans (a : Mov T F H κ F1 H1 κ1) (b : Mov T F1 H1 κ1 F2 H2 κ2) : Mov T F H κ F2 H2 κ2 := by
  obtain ⟨r1, e1, n1⟩ := a.c
  obtain ⟨r2, e2, n2⟩ := b.c
  have key : ∀ c, Fre (H1 c) → Fre (H c) ∨ c ∈ κ := fun c f1 => by
    rcases fre_or (H c) with f | ⟨u, e, nt⟩
    · exact .inl f
    · by_cases hc : c ∈ κ
      · exact .inr hc
      · exact Fre.not f1 (a.keep c u e nt hc) nt
  refine ⟨a.f.trans b.f, ⟨r1 ++ r2, by rw [e2, e1, List.append_assoc], fun c hc => ?_⟩, fun c o e nt hc => ?_, fun t => b.tabs (a.tabs t), b.s, fun c o e q => ?_⟩
  · rcases List.mem_append.mp hc with h | h
    · exact n1 c h
    · obtain ⟨f1, m1⟩ := n2 c h
      have hk : c ∉ κ := fun z => m1 (by rw [e1]; exact List.mem_append_left _ z)
      exact ⟨(key c f1).resolve_right hk, hk⟩
  · have h1 := a.keep c o e nt hc
    refine b.keep c o h1 nt fun z => ?_
    rw [e1] at z
    rcases List.mem_append.mp z with z | z
    · exact hc z
    · exact Fre.not (n1 c z).1 e nt
  · cases q1 : F1 c with
    | some u => exact a.n c u q1 q
    | none =>
      rcases b.n c o e q1 with h | h
      · exact key c h
      · rw [e1] at h
        rcases List.mem_append.mp h with h | h
        · exact .inr h
        · exact .inl (n1 c h).1
theorem Mov.rw (m : Mov T F H κ F' H' κ') (h : RW K F κ v w) : RW K F' κ' v w := by
  obtain ⟨r, e, _⟩ := m.c
  subst e
  exact h.mono m.f
theorem Mov.rws (m : Mov T F H κ F' H' κ') {vs : List V} {ws : List W} (h : RWs K F κ vs ws) : RWs K F' κ' vs ws := pr_imp (fun _ _ h => m.rw h) h
theorem RWs.mono {vs : List V} {ws : List W} {r : List Addr} (s : Same F F') (h : RWs K F κ vs ws) : RWs K F' (κ ++ r) vs ws := pr_imp (fun _ _ h => RW.mono s h) h
theorem RWp.mono {α : Type} {vs : List (α × V)} {ws : List (α × W)} {r : List Addr} (s : Same F F') (h : RWp α K F κ vs ws) : RWp α K F' (κ ++ r) vs ws := pr_imp (fun _ _ h => ⟨h.1, RW.mono s h.2⟩) h
/-- where a cell's object stands as it stood, and its frozen part too -/
theorem CellOk.mono {a : Addr} {c : Cell} {r : List Addr} (s : Same F F') (h : CellOk K cl F H κ a c) (hh : F a = Option.none → H' a = H a ∧ F' a = Option.none) : CellOk K cl F' H' (κ ++ r) a c := by
  cases c with
  | lst ws => obtain ⟨vs, e1, e2, r⟩ := h; obtain ⟨a1, a2⟩ := hh e2; exact ⟨vs, a1.trans e1, a2, RWs.mono s r⟩
  | dct ws => obtain ⟨vs, e1, e2, r⟩ := h; obtain ⟨a1, a2⟩ := hh e2; exact ⟨vs, a1.trans e1, a2, RWp.mono s r⟩
  | ins c ws => obtain ⟨dx, vs, e1, e2, e3, e4, r⟩ := h; obtain ⟨a1, a2⟩ := hh e2; exact ⟨dx, vs, a1.trans e1, a2, e3, e4, RWs.mono s r⟩
  | deq k ns => obtain ⟨e1, e2, e3⟩ := h; obtain ⟨a1, a2⟩ := hh e2; exact ⟨a1.trans e1, a2, e3⟩
  | gone => obtain ⟨o, e⟩ := h; exact ⟨o, s _ _ e⟩
theorem CellOk.some {a : Addr} {c : Cell} (s : Same F H) (nt : ∀ b ps, F b ≠ some (.tbl ps)) (h : CellOk K cl F H κ a c) : ∃ o, H a = some o ∧ noT o := by
  cases c with
  | lst ws => obtain ⟨vs, e1, _⟩ := h; exact ⟨_, e1, fun _ z => by cases z⟩
  | dct ws => obtain ⟨vs, e1, _⟩ := h; exact ⟨_, e1, fun _ z => by cases z⟩
  | ins c ws => obtain ⟨dx, vs, e1, _⟩ := h; exact ⟨_, e1, fun _ z => by cases z⟩
  | deq k ns => exact ⟨_, h.1, fun _ z => by unfold DqI at z; cases z⟩
  | gone => obtain ⟨o, e⟩ := h; exact ⟨o, s _ _ e, fun ps z => nt _ ps (by rw [← z]; exact e)⟩
theorem StOk.at (S : StOk K cl F H κ μ) {n : Nat} {c : Cell} (e : μ[n]? = some c) : ∃ a, κ[n]? = some a ∧ CellOk K cl F H κ a c := by
  have h1 : n < μ.length := (List.getElem?_eq_some_iff.mp e).1
  have h2 : n < κ.length := by rw [S.ln]; exact h1
  exact ⟨κ[n], List.getElem?_eq_getElem h2, S.ok n c _ e (List.getElem?_eq_getElem h2)⟩
theorem StOk.mem (S : StOk K cl F H κ μ) (u : Sub T F H) {a : Addr} (h : a ∈ κ) : ∃ o, H a = some o ∧ noT o := by
  obtain ⟨n, h2, e⟩ := List.mem_iff_getElem.mp h
  have h1 : n < μ.length := by rw [← S.ln]; exact h2
  exact (S.ok n _ a (List.getElem?_eq_getElem h1) (by rw [List.getElem?_eq_getElem h2, e])).some u.same u.nt
theorem StOk.grow (S : StOk K cl F H κ μ) (u : Sub T F H) (g : Grow T F H F' H') : StOk K cl F' H' κ μ := by
  refine ⟨S.ln, S.nd, fun n c a e1 e2 => ?_⟩
  have h := S.ok n c a e1 e2
  obtain ⟨o, ho, nt⟩ := h.some u.same u.nt
  have z := CellOk.mono (H' := H') (r := []) g.f h fun hf => ⟨by rw [ho]; exact g.h.old a o ho nt, by
    cases q : F' a with
    | none => rfl
    | some x => exact Fre.not (g.n a x q hf) ho nt⟩
  simpa using z
/-- a cell is written -/
theorem nodup_ne {l : List Addr} (h : l.Nodup) {i j : Nat} {a b : Addr} (e1 : l[i]? = some a) (e2 : l[j]? = some b) (ne : i ≠ j) : a ≠ b := by
  obtain ⟨h1, e1⟩ := List.getElem?_eq_some_iff.mp e1
  obtain ⟨h2, e2⟩ := List.getElem?_eq_some_iff.mp e2
  intro z
  exact ne ((List.getElem_inj h).mp (by rw [e1, e2, z]))
theorem StOk.write (S : StOk K cl F H κ μ) {n : Nat} {c : Cell} {a : Addr} {o : HO} (e : κ[n]? = some a) (new : CellOk K cl F (upd H a o) κ a c) : StOk K cl F (upd H a o) κ (μ.set n c) := by
  refine ⟨by rw [List.length_set]; exact S.ln, S.nd, fun m d b e1 e2 => ?_⟩
  by_cases hm : n = m
  · subst hm
    rw [e] at e2
    cases e2
    have hn : n < μ.length := by rw [← S.ln]; exact (List.getElem?_eq_some_iff.mp e).1
    rw [List.getElem?_set_self hn] at e1
    cases e1
    exact new
  · rw [List.getElem?_set_ne hm] at e1
    have ne := nodup_ne S.nd e2 e (Ne.symm hm)
    have z := CellOk.mono (H' := upd H a o) (r := []) (Same.refl F) (S.ok m d b e1 e2) fun hf => ⟨upd_ne ne, hf⟩
    simpa using z
theorem Tabs_upd {a : Addr} {u o : HO} (ha : H a = some u) (nt : noT u) (no : ∀ φ, u ≠ .ext φ) (t : Tabs T H) : Tabs T (upd H a o) := fun p hp => by
  obtain ⟨ps, a1, a2, a3⟩ := t p hp
  refine ⟨ps, ?_, a2, fun pos cv hcv => ?_⟩
  · rw [upd_ne (fun z => by rw [z, ha] at a1; exact nt _ (Option.some.inj a1))]
    exact a1
  · obtain ⟨c, e1, e2⟩ := a3 pos cv hcv
    refine ⟨c, e1, ?_⟩
    rw [upd_ne (fun z => by rw [z, ha] at e2; unfold LamX.CodeO at e2; exact no _ (Option.some.inj e2))]
    exact e2
theorem Mov.write {a : Addr} {o u : HO} (s : Sub T F H) (hu : H a = some u) (hf : F a = Option.none) (ha : a ∈ κ) (t : Tabs T H → Tabs T (upd H a o)) : Mov T F H κ F (upd H a o) κ :=
  ⟨Same.refl _, ⟨[], by simp, by simp⟩, fun b x e nt hb => by rw [upd_ne (fun z : b = a => hb (by rw [z]; exact ha))]; exact e, t,
    ⟨fun b x e => by rw [upd_ne (ne_of_none e hf)]; exact s.same _ _ e, s.nt, t s.tabs⟩, fun b x e q => by rw [q] at e; cases e⟩
/-- a new cell -/
theorem Mov.new {p : Addr} {o : HO} (S : StOk K cl F H κ μ) (s : Sub T F H) (hp : H p = Option.none) : Mov T F H κ F (upd H p o) (κ ++ [p]) := by
  have g := Grow.mine (T := T) (o := o) s hp
  refine ⟨Same.refl _, ⟨[p], rfl, fun b hb => ?_⟩, fun b x e nt _ => g.h.old b x e nt, g.h.tabs, g.s, fun b x e q => by rw [q] at e; cases e⟩
  rw [List.mem_singleton.mp hb]
  refine ⟨.inl hp, fun z => ?_⟩
  obtain ⟨o, e, _⟩ := S.mem s z
  rw [hp] at e
  cases e
theorem StOk.new {p : Addr} {o : HO} {c : Cell} (S : StOk K cl F H κ μ) (s : Sub T F H) (hp : H p = Option.none) (new : CellOk K cl F (upd H p o) (κ ++ [p]) p c) : StOk K cl F (upd H p o) (κ ++ [p]) (μ ++ [c]) := by
  have pk : p ∉ κ := fun z => by
    obtain ⟨o, e, _⟩ := S.mem s z
    rw [hp] at e
    cases e
  refine ⟨by rw [List.length_append, List.length_append, S.ln]; rfl, List.nodup_append.mpr ⟨S.nd, by simp, fun a ha b hb z => ?_⟩, fun n d a e1 e2 => ?_⟩
  · rw [List.mem_singleton.mp hb] at z
    exact pk (z ▸ ha)
  · by_cases hn : n < μ.length
    · rw [List.getElem?_append_left hn] at e1
      rw [List.getElem?_append_left (by rw [S.ln]; exact hn)] at e2
      have ne : a ≠ p := fun z => pk (z ▸ List.mem_of_getElem? e2)
      exact CellOk.mono (Same.refl F) (S.ok n d a e1 e2) fun hf => ⟨upd_ne ne, hf⟩
    · have hl : n < (μ ++ [c]).length := (List.getElem?_eq_some_iff.mp e1).1
      rw [List.length_append, List.length_singleton] at hl
      have en : n = μ.length := by omega
      subst en
      rw [List.getElem?_append_right (Nat.le_refl _), Nat.sub_self] at e1
      rw [List.getElem?_append_right (by rw [S.ln]; exact Nat.le_refl _), S.ln, Nat.sub_self] at e2
      cases e1
      cases e2
      exact new
/-- a list of data comes to stay -/
theorem frz_st {n : Nat} {a : Addr} {o : HO} (S : StOk K cl F H κ μ) (e : κ[n]? = some a) (hf : F a = Option.none) : StOk K cl (upd F a o) H κ (μ.set n .gone) := by
  have s2 : Same F (upd F a o) := fun b x q => by rw [upd_ne (ne_of_none q hf)]; exact q
  refine ⟨by rw [List.length_set]; exact S.ln, S.nd, fun m d b e1 e2 => ?_⟩
  by_cases hm : n = m
  · subst hm
    rw [e] at e2
    cases e2
    have hn : n < μ.length := by rw [← S.ln]; exact (List.getElem?_eq_some_iff.mp e).1
    rw [List.getElem?_set_self hn] at e1
    cases e1
    exact ⟨_, upd_same⟩
  · rw [List.getElem?_set_ne hm] at e1
    have ne := nodup_ne S.nd e2 e (Ne.symm hm)
    have z := CellOk.mono (H' := H) (r := []) s2 (S.ok m d b e1 e2) fun hf => ⟨rfl, by rw [upd_ne ne]; exact hf⟩
    simpa using z
theorem frz_mov {a : Addr} {o : HO} (s : Sub T F H) (ha : H a = some o) (nt : noT o) (hf : F a = Option.none) (hk : a ∈ κ) : Mov T F H κ (upd F a o) H κ := by
  have s2 : Same F (upd F a o) := fun b x q => by rw [upd_ne (ne_of_none q hf)]; exact q
  refine ⟨s2, ⟨[], by simp, by simp⟩, fun b x e _ _ => e, id, ⟨fun b x e => ?_, fun b ps e => ?_, s.tabs⟩, fun b x e q => ?_⟩
  · by_cases hb : b = a
    · subst hb; rw [upd_same] at e; cases e; exact ha
    · rw [upd_ne hb] at e; exact s.same _ _ e
  · by_cases hb : b = a
    · subst hb; rw [upd_same] at e; exact nt ps (Option.some.inj e)
    · rw [upd_ne hb] at e; exact s.nt b ps e
  · by_cases hb : b = a
    · subst hb; exact .inr hk
    · rw [upd_ne hb, q] at e; cases e
end
/-! ### frames -/
abbrev YF := List (Option W)
structure MS (T : List (Addr × Str)) (K : PySem.W.Frag) (cl : Cf) (F0 H0 : Hp) (κ0 : List Addr) (σ : St) (F H : Hp) (κ : List Addr) (ρ : YF) (μ : Sto) : Prop where
  g : Mov T F0 H0 κ0 F H κ
  st : StOk K cl F H κ μ
  ln : ρ.length = σ.length
  sl : ∀ (i : Nat) (w : W), ρ[i]? = some (some w) → ∃ v, σ[i]? = some (some v) ∧ RW K F κ v w
section
variable {T : List (Addr × Str)} {K : PySem.W.Frag} {cl : Cf} {F0 H0 F H F' H' : Hp} {κ0 κ κ' : List Addr} {σ : St} {ρ : YF} {μ μ' : Sto}
theorem MS.s (S : MS T K cl F0 H0 κ0 σ F H κ ρ μ) : Sub T F H := S.g.s
theorem MS.move (S : MS T K cl F0 H0 κ0 σ F H κ ρ μ) (m : Mov T F H κ F' H' κ') (st : StOk K cl F' H' κ' μ') : MS T K cl F0 H0 κ0 σ F' H' κ' ρ μ' :=
  ⟨S.g.trans m, st, S.ln, fun i w e => let ⟨v, e1, r⟩ := S.sl i w e; ⟨v, e1, m.rw r⟩⟩
theorem MS.set (S : MS T K cl F0 H0 κ0 σ F H κ ρ μ) {i : Nat} {v : V} {w : W} (r : RW K F κ v w) (hi : i < ρ.length) : MS T K cl F0 H0 κ0 (σ.set i (some v)) F H κ (ρ.set i (some w)) μ := by
  refine ⟨S.g, S.st, by rw [List.length_set, List.length_set]; exact S.ln, fun j u e => ?_⟩
  by_cases hj : i = j
  · subst hj
    rw [List.getElem?_set_self hi] at e
    cases e
    exact ⟨v, List.getElem?_set_self (by rw [← S.ln]; exact hi), r⟩
  · rw [List.getElem?_set_ne hj] at e ⊢
    exact S.sl j u e
end
/-! ### what expressions, tests, arguments do -/
abbrev YM (α : Type) := YF → Sto → Option (α × Sto)
def EY (T : List (Addr × Str)) (K : PySem.W.Frag) (cl : Cf) (te : TE) (m : YM W) : Prop := ∀ (F0 H0 : Hp) (κ0 : List Addr) (σ : St) (F H : Hp) (κ : List Addr) (ρ : YF) (μ : Sto) (w : W) (μ' : Sto), MS T K cl F0 H0 κ0 σ F H κ ρ μ → m ρ μ = some (w, μ') →
  ∀ Q : VK, (∀ v F' H' κ', Mov T F H κ F' H' κ' → StOk K cl F' H' κ' μ' → RW K F' κ' v w → Q v H') → te σ H Q
def TY (T : List (Addr × Str)) (K : PySem.W.Frag) (cl : Cf) (tt : TT) (m : YM Bool) : Prop := ∀ (F0 H0 : Hp) (κ0 : List Addr) (σ : St) (F H : Hp) (κ : List Addr) (ρ : YF) (μ : Sto) (b : Bool) (μ' : Sto), MS T K cl F0 H0 κ0 σ F H κ ρ μ → m ρ μ = some (b, μ') →
  ∀ Q : Bool → Hp → Prop, (∀ F' H' κ', Mov T F H κ F' H' κ' → StOk K cl F' H' κ' μ' → Q b H') → tt σ H Q
def AY (T : List (Addr × Str)) (K : PySem.W.Frag) (cl : Cf) (ta : TA) (m : YM (List W)) : Prop := ∀ (F0 H0 : Hp) (κ0 : List Addr) (σ : St) (F H : Hp) (κ : List Addr) (ρ : YF) (μ : Sto) (ws : List W) (μ' : Sto), MS T K cl F0 H0 κ0 σ F H κ ρ μ → m ρ μ = some (ws, μ') →
  ∀ Q : List V → Hp → Prop, (∀ vs F' H' κ', Mov T F H κ F' H' κ' → StOk K cl F' H' κ' μ' → RWs K F' κ' vs ws → Q vs H') → ta σ H Q
def YD {ι : Type} (X : ι → Cx) (T : List (Addr × Str)) (K : PySem.W.Frag) (cl : Cf) (e : Expr) (m : YM W) : Prop := ∃ t, (∀ i, PE (X i) e t) ∧ EY T K cl t m
def YT {ι : Type} (X : ι → Cx) (T : List (Addr × Str)) (K : PySem.W.Frag) (cl : Cf) (e : Expr) (m : YM Bool) : Prop := ∃ t, (∀ i, PT (X i) e t) ∧ TY T K cl t m
def YW {ι : Type} (X : ι → Cx) (T : List (Addr × Str)) (K : PySem.W.Frag) (cl : Cf) (e : Expr) (m : YM Bool) : Prop := ∃ t, (∀ i, PW (X i) e t) ∧ TY T K cl t m
def YA {ι : Type} (X : ι → Cx) (T : List (Addr × Str)) (K : PySem.W.Frag) (cl : Cf) (es : List Expr) (m : YM (List W)) : Prop := ∃ t, (∀ i, PA (X i) es t) ∧ AY T K cl t m
/-! ### the monad of mirrors -/
def yPure {α : Type} (a : α) : YM α := fun _ μ => some (a, μ)
def yBind {α β : Type} (m : YM α) (f : α → YM β) : YM β := fun ρ μ => (m ρ μ).bind fun p => f p.1 ρ p.2
def yVar (i : Nat) : YM W := fun ρ μ => match ρ[i]? with
  | some (some w) => some (w, μ)
  | _ => none
def yC (d : D) : YM W := fun _ μ => some (.da d, μ)
/-- a step by the value alone, of data -/
def y1 (f : D → Option D) (a : YM W) : YM W := fun ρ μ => (a ρ μ).bind fun p => match p.1 with
  | .da x => (f x).map fun d => (.da d, p.2)
  | _ => none
def y2 (f : D → D → Option D) (a b : YM W) : YM W := fun ρ μ => (a ρ μ).bind fun p => (b ρ p.2).bind fun q => match p.1, q.1 with
  | .da x, .da y => (f x y).map fun d => (.da d, q.2)
  | _, _ => none
def yNil : YM (List W) := fun _ μ => some ([], μ)
def yCons (a : YM W) (r : YM (List W)) : YM (List W) := fun ρ μ => (a ρ μ).bind fun p => (r ρ p.2).bind fun q => some (p.1 :: q.1, q.2)
def allDa : List W → Option (List D)
  | [] => some []
  | .da d :: r => (allDa r).map (d :: ·)
  | _ :: _ => none
def yA (f : List D → Option D) (a : YM (List W)) : YM W := fun ρ μ => (a ρ μ).bind fun p => (allDa p.1).bind fun ds => (f ds).map fun d => (.da d, p.2)
theorem allDa_rp {K : PySem.W.Frag} {F : Hp} {κ : List Addr} : ∀ {vs : List V} {ws : List W} {ds : List D}, RWs K F κ vs ws → allDa ws = some ds → RpAll K F vs ds
  | _, _, _, .nil, h => by cases h; exact .nil
  | _, _, _, .cons hv r, h => by
    cases hv with
    | da hd =>
      obtain ⟨ms, e, h⟩ := Option.map_eq_some_iff.mp h
      subst h
      exact .cons hd (allDa_rp r e)
    | rf e => cases h
theorem allDa_map : ∀ ds : List D, allDa (ds.map W.da) = some ds
  | [] => rfl
  | d :: ds => by
    show (allDa (ds.map W.da)).map (d :: ·) = _
    rw [allDa_map ds]; rfl
section
variable {ι : Type} {T : List (Addr × Str)} {K : PySem.W.Frag} {cl : Cf} {X : ι → Cx}
theorem ey_var (i : Nat) : EY T K cl (tVar i) (yVar i) := by
  intro F0 H0 κ0 σ F H κ ρ μ w μ' S h Q q
  unfold yVar at h
  split at h
  · rename_i w' e
    cases h
    obtain ⟨v, e1, r⟩ := S.sl i _ e
    exact ⟨v, e1, q v F H κ (Mov.refl S.s) S.st r⟩
  · cases h
theorem ey_c {v : V} {d : D} (r : ∀ F, Rp K F v d) : EY T K cl (tC v) (yC d) := by
  intro F0 H0 κ0 σ F H κ ρ μ w μ' S h Q q
  cases h
  exact q v F H κ (Mov.refl S.s) S.st (.da (r F))
theorem yd_v (i : Nat) {x : Str} {pos : Pos} (hN : ∀ i0, (X i0).N[i]? = some x := by intro _; rfl) (hv : ∀ i0, Vis (X i0).env.scope x := by intro _; first | exact Or.inl rfl | exact Or.inr (Or.inl rfl) | exact Or.inr (Or.inr rfl)) (hd : (x == ("__debug__" : Str)) = false := by decide)
    (hcd : (x == ("__classdict__" : Str)) = false := by decide) : YD X T K cl (.Name x pos) (yVar i) := ⟨_, fun i0 => pe_var (hN i0) (hv i0) hd hcd, ey_var i⟩
theorem yd_int {i j pos} : YD X T K cl (.Constant (.int i) j pos) (yC (.int i)) := ⟨_, fun i0 => pe_int, ey_c fun _ => .int i⟩
theorem yd_bl {b j pos} : YD X T K cl (.Constant (.bool b) j pos) (yC (.bool b)) := ⟨_, fun i0 => pe_bl, ey_c fun _ => .bl b⟩
theorem yd_non {j pos} : YD X T K cl (.Constant .none j pos) (yC .none) := ⟨_, fun i0 => pe_non, ey_c fun _ => .non⟩
theorem yd_str {x j pos} : YD X T K cl (.Constant (.str x) j pos) (yC (.str x)) := ⟨_, fun i0 => pe_str, ey_c fun _ => .str x⟩
theorem yd_glob {x : Str} {v : V} {u : Value} {d : D} {pos : Pos} (hm : ∀ i0, (X i0).mg x = some u) (r : RelV v u) (rp : ∀ F, Rp K F v d) (hg : ∀ i0, Gl (X i0) x := by intro _; rfl) (hd : (x == ("__debug__" : Str)) = false := by decide) : YD X T K cl (.Name x pos) (yC d) :=
  ⟨_, fun i0 => pe_glob (hg i0) (hm i0) r hd, ey_c rp⟩
theorem ya_nil : YA X T K cl [] yNil := ⟨_, fun i0 => pa_nil, by
  intro F0 H0 κ0 σ F H κ ρ μ w μ' S h Q q
  cases h
  exact q [] F H κ (Mov.refl S.s) S.st .nil⟩
theorem ay_cons {te : TE} {ta : TA} {a : YM W} {r : YM (List W)} (ha : EY T K cl te a) (hr : AY T K cl ta r) : AY T K cl (tCons te ta) (yCons a r) := by
  intro F0 H0 κ0 σ F H κ ρ μ w μ' S h Q q
  unfold yCons at h
  obtain ⟨⟨x, μ1⟩, e1, h⟩ := Option.bind_eq_some_iff.mp h
  obtain ⟨⟨xs, μ2⟩, e2, h⟩ := Option.bind_eq_some_iff.mp h
  cases h
  refine ha F0 H0 κ0 σ F H κ ρ μ x μ1 S e1 _ fun v F1 H1 κ1 m1 s1 r1 => ?_
  refine hr F0 H0 κ0 σ F1 H1 κ1 ρ μ1 xs μ2 (S.move m1 s1) e2 _ fun vs F2 H2 κ2 m2 s2 r2 => ?_
  exact q (v :: vs) F2 H2 κ2 (m1.trans m2) s2 (.cons (m2.rw r1) r2)
theorem ya_cons {e : Expr} {es : List Expr} {a : YM W} {r : YM (List W)} (ha : YD X T K cl e a) (hr : YA X T K cl es r) (hs : ∀ i0, starEach (e :: es) (X i0).env = (false, eval e (X i0).env) :: starEach es (X i0).env := by intro _; rfl) : YA X T K cl (e :: es) (yCons a r) := by
  obtain ⟨t, p, l⟩ := ha
  obtain ⟨u, p2, l2⟩ := hr
  exact ⟨_, fun i0 => pa_cons (p i0) (p2 i0) (hs i0), ay_cons l l2⟩
theorem ey_op {r : R2} {f : D → D → Option D} {ta tb : TE} {a b : YM W} (ho : OpL T K r f) (ha : EY T K cl ta a) (hb : EY T K cl tb b) : EY T K cl (tOp r ta tb) (y2 f a b) := by
  intro F0 H0 κ0 σ F H κ ρ μ w μ' S h Q q
  unfold y2 at h
  obtain ⟨⟨x, μ1⟩, e1, h⟩ := Option.bind_eq_some_iff.mp h
  obtain ⟨⟨y, μ2⟩, e2, h⟩ := Option.bind_eq_some_iff.mp h
  refine ha F0 H0 κ0 σ F H κ ρ μ x μ1 S e1 _ fun v F1 H1 κ1 m1 s1 r1 => ?_
  have S1 := S.move m1 s1
  refine hb F0 H0 κ0 σ F1 H1 κ1 ρ μ1 y μ2 S1 e2 _ fun u F2 H2 κ2 m2 s2 r2 => ?_
  have r1' := m2.rw r1
  cases r1' with
  | rf e => cases h
  | da r1' =>
    cases r2 with
    | rf e => cases h
    | da r2 =>
      obtain ⟨d, e3, h⟩ := Option.map_eq_some_iff.mp h
      cases h
      exact ho F2 H2 v u _ _ d m2.s r1' r2 e3 Q fun z F3 H3 g3 r3 => q z F3 H3 κ2 ((m1.trans m2).trans (.of g3)) (s2.grow m2.s g3) (.da r3)
theorem yd_op {r : R2} {f : D → D → Option D} {op : Operator} {a b : Expr} {ma mb : YM W} {pos : Pos} (hr : ∀ i0, OpR (X i0) (binaryOp op) r) (ho : OpL T K r f) (ha : YD X T K cl a ma) (hb : YD X T K cl b mb) : YD X T K cl (.BinOp a op b pos) (y2 f ma mb) := by
  obtain ⟨t, p, l⟩ := ha
  obtain ⟨u, p2, l2⟩ := hb
  exact ⟨_, fun i0 => pe_op (hr i0) (p i0) (p2 i0), ey_op ho l l2⟩
theorem yd_cmp {r : R2} {f : D → D → Option D} {op : CmpOp} {a b : Expr} {ma mb : YM W} {pos : Pos} (hr : ∀ i0, OpR (X i0) (compareOp op) r) (ho : OpL T K r f) (ha : YD X T K cl a ma) (hb : YD X T K cl b mb) (hm : behindInMarks op b = false) : YD X T K cl (.Compare a [op] [b] pos) (y2 f ma mb) := by
  obtain ⟨t, p, l⟩ := ha
  obtain ⟨u, p2, l2⟩ := hb
  exact ⟨_, fun i0 => pe_cmpR (hr i0) (p i0) (p2 i0) hm, ey_op ho l l2⟩
/-! ### tests -/
def yB (a : YM W) : YM Bool := fun ρ μ => (a ρ μ).bind fun p => match p.1 with
  | .da (.bool b) => some (b, p.2)
  | _ => none
theorem ty_test {te : TE} {a : YM W} (ha : EY T K cl te a) : TY T K cl (tTest te) (yB a) := by
  intro F0 H0 κ0 σ F H κ ρ μ b μ' S h Q q
  unfold yB at h
  obtain ⟨⟨x, μ1⟩, e1, h⟩ := Option.bind_eq_some_iff.mp h
  refine ha F0 H0 κ0 σ F H κ ρ μ x μ1 S e1 _ fun v F1 H1 κ1 m1 s1 r1 => ?_
  simp only at h
  split at h
  · cases h
    cases r1 with
    | da r1 => cases r1; exact ⟨_, rfl, q F1 H1 κ1 m1 s1⟩
  · cases h
theorem yt_cmp {r : R2} {f : D → D → Option D} {op : CmpOp} {a b : Expr} {ma mb : YM W} {pos : Pos} (hr : ∀ i0, OpR (X i0) (compareOp op) r) (ho : OpL T K r f) (ha : YD X T K cl a ma) (hb : YD X T K cl b mb) (hm : behindInMarks op b = false) : YT X T K cl (.Compare a [op] [b] pos) (yB (y2 f ma mb)) := by
  obtain ⟨t, p, l⟩ := ha
  obtain ⟨u, p2, l2⟩ := hb
  exact ⟨_, fun i0 => pt_cmpR (hr i0) (p i0) (p2 i0) hm, ty_test (ey_op ho l l2)⟩
/-- truth -/
def cTru : Cell → Option Bool
  | .lst ws => some (!ws.isEmpty)
  | .dct ws => some (!ws.isEmpty)
  | _ => none
def yTru (a : YM W) : YM Bool := fun ρ μ => (a ρ μ).bind fun p => match p.1 with
  | .da d => (dTru d).map fun b => (b, p.2)
  | .rf n => (p.2[n]?).bind fun c => (cTru c).map fun b => (b, p.2)
theorem pr_empty {α β : Type} {R : α → β → Prop} {xs : List α} {ys : List β} (h : Paired R xs ys) : xs.isEmpty = ys.isEmpty := by
  cases h <;> rfl
theorem yt_tru {e : Expr} {a : YM W} (ha : YD X T K cl e a) (he : ∀ i0, ∀ whole : Sem Value, PySem.isTrue e (X i0).env whole = (do let v ← whole; standAt e.pos; holding [v] (truthy v)) := by intro _; intro _; rfl) (k : ∀ i0, (X i0).K = K := by intro _; rfl) : YT X T K cl e (yTru a) := by
  obtain ⟨t, p, l⟩ := ha
  refine ⟨fun σ H Q => t σ H fun x H' => ∃ k, TruV K x H' k ∧ Q k H', fun i0 => by have e := k i0; subst e; exact pt_truth (p i0) (he i0), ?_⟩
  intro F0 H0 κ0 σ F H κ ρ μ b μ' S h Q q
  unfold yTru at h
  obtain ⟨⟨x, μ1⟩, e1, h⟩ := Option.bind_eq_some_iff.mp h
  refine l F0 H0 κ0 σ F H κ ρ μ x μ1 S e1 _ fun v F1 H1 κ1 m1 s1 r1 => ?_
  cases r1 with
  | da r1 =>
    obtain ⟨b', e2, h⟩ := Option.map_eq_some_iff.mp h
    cases h
    exact ⟨_, truV_of (r1.mono m1.s.same) e2, q F1 H1 κ1 m1 s1⟩
  | rf e2 =>
    obtain ⟨c, e3, h⟩ := Option.bind_eq_some_iff.mp h
    obtain ⟨b', e4, h⟩ := Option.map_eq_some_iff.mp h
    cases h
    have z := s1.ok _ c _ e3 e2
    cases c with
    | lst ws =>
      cases e4
      obtain ⟨vs, a1, _, a3⟩ := z
      exact ⟨_, .inl ⟨_, SqL.of a1, by rw [← pr_empty a3]⟩, q F1 H1 κ1 m1 s1⟩
    | dct ws =>
      cases e4
      obtain ⟨vs, a1, _, a3⟩ := z
      exact ⟨_, .inr (.inr ⟨_, a1, by rw [← pr_empty a3]⟩), q F1 H1 κ1 m1 s1⟩
    | ins c ws => cases e4
    | deq k ns => cases e4
    | gone => cases e4
def yAnd (a b : YM Bool) : YM Bool := fun ρ μ => (a ρ μ).bind fun p => if p.1 = true then b ρ p.2 else some (false, p.2)
def yOr (a b : YM Bool) : YM Bool := fun ρ μ => (a ρ μ).bind fun p => if p.1 = true then some (true, p.2) else b ρ p.2
def yNot (a : YM Bool) : YM Bool := fun ρ μ => (a ρ μ).bind fun p => some (!p.1, p.2)
theorem yt_not {e : Expr} {a : YM Bool} {pos : Pos} (ha : YT X T K cl e a) : YT X T K cl (.UnaryOp .Not e pos) (yNot a) := by
  obtain ⟨t, p, l⟩ := ha
  refine ⟨_, fun i0 => pt_not (p i0), ?_⟩
  intro F0 H0 κ0 σ F H κ ρ μ b μ' S h Q q
  unfold yNot at h
  obtain ⟨⟨x, μ1⟩, e1, h⟩ := Option.bind_eq_some_iff.mp h
  cases h
  exact l F0 H0 κ0 σ F H κ ρ μ x μ1 S e1 _ fun F1 H1 κ1 m1 s1 => q F1 H1 κ1 m1 s1
theorem yw_and1 {e : Expr} {a : YM Bool} {pos : Pos} (ha : YT X T K cl e a) : YW X T K cl (.BoolOp .And [e] pos) a := by
  obtain ⟨t, p, l⟩ := ha
  exact ⟨_, fun i0 => pw_and1 (p i0), l⟩
theorem yw_or1 {e : Expr} {a : YM Bool} {pos : Pos} (ha : YT X T K cl e a) : YW X T K cl (.BoolOp .Or [e] pos) a := by
  obtain ⟨t, p, l⟩ := ha
  exact ⟨_, fun i0 => pw_or1 (p i0), l⟩
theorem yw_and {e f : Expr} {es : List Expr} {a b : YM Bool} {pos : Pos} (ha : YT X T K cl e a) (hb : YW X T K cl (.BoolOp .And (f :: es) pos) b) : YW X T K cl (.BoolOp .And (e :: f :: es) pos) (yAnd a b) := by
  obtain ⟨t, p, l⟩ := ha
  obtain ⟨u, p2, l2⟩ := hb
  refine ⟨_, fun i0 => pw_and (p i0) (p2 i0), ?_⟩
  intro F0 H0 κ0 σ F H κ ρ μ b μ' S h Q q
  unfold yAnd at h
  obtain ⟨⟨x, μ1⟩, e1, h⟩ := Option.bind_eq_some_iff.mp h
  refine l F0 H0 κ0 σ F H κ ρ μ x μ1 S e1 _ fun F1 H1 κ1 m1 s1 => ?_
  cases x with
  | true =>
    simp only [if_true] at h ⊢
    exact l2 F0 H0 κ0 σ F1 H1 κ1 ρ μ1 b μ' (S.move m1 s1) h _ fun F2 H2 κ2 m2 s2 => q F2 H2 κ2 (m1.trans m2) s2
  | false =>
    simp only [Bool.false_eq_true, if_false] at h ⊢
    cases h
    exact q F1 H1 κ1 m1 s1
theorem yw_or {e f : Expr} {es : List Expr} {a b : YM Bool} {pos : Pos} (ha : YT X T K cl e a) (hb : YW X T K cl (.BoolOp .Or (f :: es) pos) b) : YW X T K cl (.BoolOp .Or (e :: f :: es) pos) (yOr a b) := by
  obtain ⟨t, p, l⟩ := ha
  obtain ⟨u, p2, l2⟩ := hb
  refine ⟨_, fun i0 => pw_or (p i0) (p2 i0), ?_⟩
  intro F0 H0 κ0 σ F H κ ρ μ b μ' S h Q q
  unfold yOr at h
  obtain ⟨⟨x, μ1⟩, e1, h⟩ := Option.bind_eq_some_iff.mp h
  refine l F0 H0 κ0 σ F H κ ρ μ x μ1 S e1 _ fun F1 H1 κ1 m1 s1 => ?_
  cases x with
  | true =>
    simp only [if_true] at h ⊢
    cases h
    exact q F1 H1 κ1 m1 s1
  | false =>
    simp only [Bool.false_eq_true, if_false] at h ⊢
    exact l2 F0 H0 κ0 σ F1 H1 κ1 ρ μ1 b μ' (S.move m1 s1) h _ fun F2 H2 κ2 m2 s2 => q F2 H2 κ2 (m1.trans m2) s2
theorem YW.pt {e : Expr} {a : YM Bool} (h : YW X T K cl e a) : YT X T K cl e a := by
  obtain ⟨t, p, l⟩ := h
  exact ⟨_, fun i0 => (p i0).pt, l⟩
/-! ### and, or, not as values -/
def yAndV (a b : YM W) : YM W := fun ρ μ => (a ρ μ).bind fun p => match p.1 with
  | .da (.bool true) => b ρ p.2
  | .da (.bool false) => some (.da (.bool false), p.2)
  | _ => none
def yOrV (a b : YM W) : YM W := fun ρ μ => (a ρ μ).bind fun p => match p.1 with
  | .da (.bool true) => some (.da (.bool true), p.2)
  | .da (.bool false) => b ρ p.2
  | _ => none
def yNotV (a : YM W) : YM W := fun ρ μ => (a ρ μ).bind fun p => match p.1 with
  | .da (.bool c) => some (.da (.bool (!c)), p.2)
  | _ => none
theorem yd_one {op} {e : Expr} {a : YM W} {pos : Pos} (ha : YD X T K cl e a) : YD X T K cl (.BoolOp op [e] pos) a := by
  obtain ⟨t, p, l⟩ := ha
  exact ⟨_, fun i0 => pe_one (p i0), l⟩
theorem yd_and {e f : Expr} {es : List Expr} {a b : YM W} {pos : Pos} (ha : YD X T K cl e a) (hb : YD X T K cl (.BoolOp .And (f :: es) pos) b) : YD X T K cl (.BoolOp .And (e :: f :: es) pos) (yAndV a b) := by
  obtain ⟨t, p, l⟩ := ha
  obtain ⟨u, p2, l2⟩ := hb
  refine ⟨_, fun i0 => pe_and (p i0) (p2 i0), ?_⟩
  intro F0 H0 κ0 σ F H κ ρ μ w μ' S h Q q
  unfold yAndV at h
  obtain ⟨⟨x, μ1⟩, e1, h⟩ := Option.bind_eq_some_iff.mp h
  refine l F0 H0 κ0 σ F H κ ρ μ x μ1 S e1 _ fun v F1 H1 κ1 m1 s1 r1 => ?_
  simp only at h
  split at h
  · cases r1 with
    | da r1 =>
      cases r1
      refine ⟨true, rfl, ?_⟩
      rw [if_pos rfl]
      exact l2 F0 H0 κ0 σ F1 H1 κ1 ρ μ1 w μ' (S.move m1 s1) h _ fun v2 F2 H2 κ2 m2 s2 r2 => q v2 F2 H2 κ2 (m1.trans m2) s2 r2
  · cases r1 with
    | da r1 =>
      cases r1
      cases h
      refine ⟨false, rfl, ?_⟩
      rw [if_neg Bool.false_ne_true]
      exact q _ F1 H1 κ1 m1 s1 (.da (.bl false))
  · cases h
theorem yd_or {e f : Expr} {es : List Expr} {a b : YM W} {pos : Pos} (ha : YD X T K cl e a) (hb : YD X T K cl (.BoolOp .Or (f :: es) pos) b) : YD X T K cl (.BoolOp .Or (e :: f :: es) pos) (yOrV a b) := by
  obtain ⟨t, p, l⟩ := ha
  obtain ⟨u, p2, l2⟩ := hb
  refine ⟨_, fun i0 => pe_or (p i0) (p2 i0), ?_⟩
  intro F0 H0 κ0 σ F H κ ρ μ w μ' S h Q q
  unfold yOrV at h
  obtain ⟨⟨x, μ1⟩, e1, h⟩ := Option.bind_eq_some_iff.mp h
  refine l F0 H0 κ0 σ F H κ ρ μ x μ1 S e1 _ fun v F1 H1 κ1 m1 s1 r1 => ?_
  simp only at h
  split at h
  · cases r1 with
    | da r1 =>
      cases r1
      cases h
      refine ⟨true, rfl, ?_⟩
      rw [if_pos rfl]
      exact q _ F1 H1 κ1 m1 s1 (.da (.bl true))
  · cases r1 with
    | da r1 =>
      cases r1
      refine ⟨false, rfl, ?_⟩
      rw [if_neg Bool.false_ne_true]
      exact l2 F0 H0 κ0 σ F1 H1 κ1 ρ μ1 w μ' (S.move m1 s1) h _ fun v2 F2 H2 κ2 m2 s2 r2 => q v2 F2 H2 κ2 (m1.trans m2) s2 r2
  · cases h
theorem yd_not {e : Expr} {a : YM W} {pos : Pos} (ha : YD X T K cl e a) : YD X T K cl (.UnaryOp .Not e pos) (yNotV a) := by
  obtain ⟨t, p, l⟩ := ha
  refine ⟨_, fun i0 => pe_not (p i0), ?_⟩
  intro F0 H0 κ0 σ F H κ ρ μ w μ' S h Q q
  unfold yNotV at h
  obtain ⟨⟨x, μ1⟩, e1, h⟩ := Option.bind_eq_some_iff.mp h
  refine l F0 H0 κ0 σ F H κ ρ μ x μ1 S e1 _ fun v F1 H1 κ1 m1 s1 r1 => ?_
  simp only at h
  split at h
  · cases r1 with
    | da r1 =>
      cases r1
      cases h
      exact ⟨_, rfl, q _ F1 H1 κ1 m1 s1 (.da (.bl _))⟩
  · cases h
def yIf (c : YM Bool) (a b : YM W) : YM W := fun ρ μ => (c ρ μ).bind fun p => if p.1 = true then a ρ p.2 else b ρ p.2
theorem yd_if {c a b : Expr} {mc : YM Bool} {ma mb : YM W} {pos : Pos} (hc : YT X T K cl c mc) (ha : YD X T K cl a ma) (hb : YD X T K cl b mb) : YD X T K cl (.IfExp c a b pos) (yIf mc ma mb) := by
  obtain ⟨t, p, l⟩ := ha
  obtain ⟨u, p2, l2⟩ := hb
  obtain ⟨w, p3, l3⟩ := hc
  refine ⟨_, fun i0 => pe_ifExp (p3 i0) (p i0) (p2 i0), ?_⟩
  intro F0 H0 κ0 σ F H κ ρ μ w μ' S h Q q
  unfold yIf at h
  obtain ⟨⟨x, μ1⟩, e1, h⟩ := Option.bind_eq_some_iff.mp h
  refine l3 F0 H0 κ0 σ F H κ ρ μ x μ1 S e1 _ fun F1 H1 κ1 m1 s1 => ?_
  cases x with
  | true =>
    simp only [if_true] at h ⊢
    exact l F0 H0 κ0 σ F1 H1 κ1 ρ μ1 w μ' (S.move m1 s1) h _ fun v2 F2 H2 κ2 m2 s2 r2 => q v2 F2 H2 κ2 (m1.trans m2) s2 r2
  | false =>
    simp only [Bool.false_eq_true, if_false] at h ⊢
    exact l2 F0 H0 κ0 σ F1 H1 κ1 ρ μ1 w μ' (S.move m1 s1) h _ fun v2 F2 H2 κ2 m2 s2 r2 => q v2 F2 H2 κ2 (m1.trans m2) s2 r2
/-- a built-in of data alone -/
theorem ey_cb {r : List V → Hp → VK → Prop} {f : List D → Option D} {ta : TA} {m : YM (List W)} (hc : CL T K r f) (ha : AY T K cl ta m) : EY T K cl (tCB r ta) (yA f m) := by
  intro F0 H0 κ0 σ F H κ ρ μ w μ' S h Q q
  unfold yA at h
  obtain ⟨⟨ws, μ1⟩, e1, h⟩ := Option.bind_eq_some_iff.mp h
  obtain ⟨ds, e2, h⟩ := Option.bind_eq_some_iff.mp h
  obtain ⟨d, e3, h⟩ := Option.map_eq_some_iff.mp h
  cases h
  refine ha F0 H0 κ0 σ F H κ ρ μ ws μ1 S e1 _ fun vs F1 H1 κ1 m1 s1 r1 => ?_
  exact hc F1 H1 vs ds d m1.s (allDa_rp r1 e2) e3 Q fun v F2 H2 g2 r2 => q v F2 H2 κ1 (m1.trans (.of g2)) (s1.grow m1.s g2) (.da r2)
end
end Md

/-! Md2: pure expressions of Pd over a frame of Md, cells seen as data for a while; attributes; items; displays. -/
namespace Md
open PySem PySem.Spec PyProof.Rows L2 Pd
/-! ### cells seen as data -/
def allO (f : W → Option D) : List W → Option (List D)
  | [] => some []
  | w :: r => (f w).bind fun d => (allO f r).map (d :: ·)
def allK (f : W → Option D) : List (Key × W) → Option (List (D × D))
  | [] => some []
  | p :: r => (f p.2).bind fun d => (allK f r).map ((kD p.1, d) :: ·)
def dat (μ : Sto) : Nat → W → Option D
  | 0 => fun w => match w with
    | .da d => some d
    | .rf _ => none
  | k + 1 => fun w => match w with
    | .da d => some d
    | .rf n => match μ[n]? with
      | some (.lst ws) => (allO (dat μ k) ws).map .list
      | some (.dct kws) => (allK (dat μ k) kws).map .dict
      | _ => none
mutual
/-- nothing in it that may be changed -/
def hard : D → Bool
  | .tuple xs => hardAll xs
  | .list _ => false
  | .dict _ => false
  | _ => true
def hardAll : List D → Bool
  | [] => true
  | d :: r => hard d && hardAll r
end
def toP (ρ : YF) : Pd.Fr := ρ.map fun o => match o with
  | some (.da d) => .va d
  | _ => .no
def toS (μ : Sto) (ρ : YF) : Pd.Fr := ρ.map fun o => match o with
  | some w => match dat μ 6 w with
    | some d => .va d
    | none => .no
  | none => .no
def Shown (μ : Sto) (κ : List Addr) (b : Addr) : Prop := ∃ n, κ[n]? = some b ∧ ∃ k, (dat μ k (.rf n)).isSome = true
open Classical in
noncomputable def shF (μ : Sto) (κ : List Addr) (F H : Hp) : Hp := fun b => if Shown μ κ b then H b else F b
section
variable {T : List (Addr × Str)} {K : PySem.W.Frag} {cl : Cf} {F0 H0 F H F' H' : Hp} {κ0 κ κ' : List Addr} {σ : St} {ρ : YF} {μ μ' : Sto}
theorem shown_cell {n k : Nat} {d : D} (h : dat μ k (.rf n) = some d) : (∃ ws, μ[n]? = some (.lst ws)) ∨ ∃ kws, μ[n]? = some (.dct kws) := by
  cases k with
  | zero => cases h
  | succ k =>
    unfold dat at h
    split at h
    · rename_i e; cases e
    · rename_i m e
      cases e
      split at h
      · rename_i ws e2; exact .inl ⟨ws, e2⟩
      · rename_i ws e2; exact .inr ⟨ws, e2⟩
      · cases h
theorem shown_obj (S : StOk K cl F H κ μ) {b : Addr} (h : Shown μ κ b) : F b = Option.none ∧ ((∃ vs, H b = some (.lst vs)) ∨ ∃ kvs, H b = some (.dK kvs)) := by
  obtain ⟨n, e, k, h⟩ := h
  cases q : dat μ k (.rf n) with
  | none => rw [q] at h; cases h
  | some d =>
    rcases shown_cell q with ⟨ws, e2⟩ | ⟨ws, e2⟩
    · obtain ⟨vs, a1, a2, _⟩ := S.ok n _ b e2 e
      exact ⟨a2, .inl ⟨vs, a1⟩⟩
    · obtain ⟨vs, a1, a2, _⟩ := S.ok n _ b e2 e
      exact ⟨a2, .inr ⟨vs, a1⟩⟩
theorem shF_same (S : StOk K cl F H κ μ) : Same F (shF μ κ F H) := fun b o e => by
  unfold shF
  split
  · rename_i hs
    rw [(shown_obj S hs).1] at e
    cases e
  · exact e
theorem shF_sub (S : StOk K cl F H κ μ) (s : Sub T F H) : Sub T (shF μ κ F H) H := by
  refine ⟨fun b o e => ?_, fun b ps e => ?_, s.tabs⟩
  · unfold shF at e
    split at e
    · exact e
    · exact s.same _ _ e
  · unfold shF at e
    split at e
    · rename_i hs
      rcases (shown_obj S hs).2 with ⟨vs, z⟩ | ⟨vs, z⟩ <;> rw [z] at e <;> cases e
    · exact s.nt b ps e
theorem allO_rp {F1 : Hp} {f : W → Option D} (ih : ∀ {v : V} {w : W} {d : D}, RW K F κ v w → f w = some d → Rp K F1 v d) : ∀ {vs : List V} {ws : List W} {ds : List D}, RWs K F κ vs ws → allO f ws = some ds → RpAll K F1 vs ds
  | _, _, _, .nil, h => by cases h; exact .nil
  | _, _, _, .cons hv r, h => by
    obtain ⟨d1, q1, h⟩ := Option.bind_eq_some_iff.mp h
    obtain ⟨ds1, q2, h⟩ := Option.map_eq_some_iff.mp h
    subst h
    exact .cons (ih hv q1) (allO_rp ih r q2)
theorem allK_rp {F1 : Hp} {f : W → Option D} (ih : ∀ {v : V} {w : W} {d : D}, RW K F κ v w → f w = some d → Rp K F1 v d) : ∀ {vs : List (Key × V)} {ws : List (Key × W)} {ds : List (D × D)}, RWp Key K F κ vs ws → allK f ws = some ds → RpKv K F1 vs ds
  | _, _, _, .nil, h => by cases h; exact .nil
  | (k, v) :: _, (k', w) :: _, _, .cons hv r, h => by
    obtain ⟨d1, q1, h⟩ := Option.bind_eq_some_iff.mp h
    obtain ⟨ds1, q2, h⟩ := Option.map_eq_some_iff.mp h
    subst h
    obtain ⟨z1, z2⟩ := hv
    simp only at z1 z2 q1
    subst z1
    exact .cons (ih z2 q1) (allK_rp ih r q2)
theorem dat_rp (S : StOk K cl F H κ μ) : ∀ (k : Nat) {v : V} {w : W} {d : D}, RW K F κ v w → dat μ k w = some d → Rp K (shF μ κ F H) v d := by
  intro k
  induction k with
  | zero =>
    intro v w d r h
    cases r with
    | da r => cases h; exact r.mono (shF_same S)
    | rf e => cases h
  | succ k ih =>
    intro v w d r h
    cases r with
    | da r => cases h; exact r.mono (shF_same S)
    | rf e =>
      rename_i n a
      have hs : Shown μ κ a := ⟨n, e, k + 1, by rw [h]; rfl⟩
      have e1 : shF μ κ F H a = H a := by unfold shF; rw [if_pos hs]
      unfold dat at h
      simp only at h
      split at h
      · rename_i ws e2
        obtain ⟨ds, e3, h⟩ := Option.map_eq_some_iff.mp h
        subst h
        obtain ⟨vs, a1, a2, a3⟩ := S.ok n _ a e2 e
        exact .lst (SqL.of (by rw [e1]; exact a1)) (allO_rp ih a3 e3)
      · rename_i ws e2
        obtain ⟨ds, e3, h⟩ := Option.map_eq_some_iff.mp h
        subst h
        obtain ⟨vs, a1, a2, a3⟩ := S.ok n _ a e2 e
        exact .dct (by rw [e1]; exact a1) (allK_rp ih a3 e3)
      · cases h
mutual
theorem hard_rp {F1 F2 : Hp} (h1 : ∀ b xs, F1 b = some (.tup xs) → F2 b = some (.tup xs)) (h2 : ∀ b o xs, F1 b = some (.frz o (.tup xs)) → F2 b = some (.frz o (.tup xs))) : ∀ {v : V} {d : D}, hard d = true → Rp K F1 v d → Rp K F2 v d
  | _, _, _, .non => .non
  | _, _, _, .bl b => .bl b
  | _, _, _, .int i => .int i
  | _, _, _, .str x => .str x
  | _, _, h, .lst _ _ => by simp [hard] at h
  | _, _, h, .dct _ _ => by simp [hard] at h
  | _, _, h, .tup hs r => by
    rw [hard] at h
    refine .tup ?_ (hardAll_rp h1 h2 h r)
    rcases hs with (hs | ⟨o, hs⟩) | hs
    · exact .inl (.inl (h1 _ _ hs))
    · exact .inl (.inr ⟨o, h2 _ _ _ hs⟩)
    · exact .inr hs
theorem hardAll_rp {F1 F2 : Hp} (h1 : ∀ b xs, F1 b = some (.tup xs) → F2 b = some (.tup xs)) (h2 : ∀ b o xs, F1 b = some (.frz o (.tup xs)) → F2 b = some (.frz o (.tup xs))) : ∀ {vs : List V} {ds : List D}, hardAll ds = true → RpAll K F1 vs ds → RpAll K F2 vs ds
  | _, _, _, .nil => .nil
  | _, _, h, .cons q r => by
    rw [hardAll, Bool.and_eq_true] at h
    exact .cons (hard_rp h1 h2 h.1 q) (hardAll_rp h1 h2 h.2 r)
end
/-- the frozen part without what was shown -/
noncomputable def unF (μ : Sto) (κ : List Addr) (F' : Hp) : Hp := open Classical in fun b => if Shown μ κ b then Option.none else F' b
theorem unF_grow (S : StOk K cl F H κ μ) (s : Sub T F H) (g : Grow T (shF μ κ F H) H F' H') : Grow T F H (unF μ κ F') H' := by
  have sm : Same F (unF μ κ F') := fun b o e => by
    have hn : ¬ Shown μ κ b := fun hs => by rw [(shown_obj S hs).1] at e; cases e
    unfold unF
    rw [if_neg hn]
    exact g.f b o (shF_same S b o e)
  refine ⟨sm, g.h, ⟨fun b o e => ?_, fun b ps e => ?_, g.s.tabs⟩, fun b o e q => ?_⟩
  · unfold unF at e
    split at e
    · cases e
    · exact g.s.same b o e
  · unfold unF at e
    split at e
    · cases e
    · exact g.s.nt b ps e
  · unfold unF at e
    split at e
    · cases e
    · rename_i hn
      refine g.n b o e ?_
      unfold shF
      rw [if_neg hn]
      exact q
theorem unF_rp (S : StOk K cl F H κ μ) (g : Grow T (shF μ κ F H) H F' H') {v : V} {d : D} (hd : hard d = true) (r : Rp K F' v d) : Rp K (unF μ κ F') v d := by
  have key : ∀ b o, F' b = some o → (∀ vs, o ≠ .lst vs) → (∀ vs, o ≠ .dK vs) → unF μ κ F' b = some o := fun b o e n1 n2 => by
    have hn : ¬ Shown μ κ b := fun hs => by
      have z := (shown_obj S hs).2
      have e1 : shF μ κ F H b = H b := by unfold shF; rw [if_pos hs]
      rcases z with ⟨vs, z⟩ | ⟨vs, z⟩
      · have := g.f b _ (e1.trans z); rw [e] at this; exact n1 _ (Option.some.inj this)
      · have := g.f b _ (e1.trans z); rw [e] at this; exact n2 _ (Option.some.inj this)
    unfold unF
    rw [if_neg hn]
    exact e
  exact hard_rp (fun b xs e => key b _ e (fun _ z => by cases z) (fun _ z => by cases z)) (fun b o xs e => key b _ e (fun _ z => by cases z) (fun _ z => by cases z)) hd r
theorem hardAll_mem : ∀ {ds : List D}, hardAll ds = true → ∀ d ∈ ds, hard d = true
  | [], _, _, h => by cases h
  | d :: r, h, e, he => by
    rw [hardAll, Bool.and_eq_true] at h
    rcases List.mem_cons.mp he with rfl | he
    · exact h.1
    · exact hardAll_mem h.2 e he
theorem unF_rpAll (S : StOk K cl F H κ μ) (g : Grow T (shF μ κ F H) H F' H') : ∀ {vs : List V} {ds : List D}, hardAll ds = true → RpAll K F' vs ds → RpAll K (unF μ κ F') vs ds
  | _, _, _, .nil => .nil
  | _, _, h, .cons q r => by
    rw [hardAll, Bool.and_eq_true] at h
    exact .cons (unF_rp S g h.1 q) (unF_rpAll S g h.2 r)
theorem MS.pure (S : MS T K cl F0 H0 κ0 σ F H κ ρ μ) : State T K F H σ F H (toP ρ) where
  g := Grow.refl S.s
  ln := by unfold toP; rw [List.length_map]; exact S.ln
  va := fun i d e => by
    unfold toP at e
    rw [List.getElem?_map] at e
    obtain ⟨o, e1, e2⟩ := Option.map_eq_some_iff.mp e
    split at e2
    · cases e2
      obtain ⟨v, h1, r⟩ := S.sl i _ e1
      cases r with
      | da r => exact ⟨v, h1, r⟩
    · cases e2
  ow := fun i ds e => by
    unfold toP at e
    rw [List.getElem?_map] at e
    obtain ⟨o, e1, e2⟩ := Option.map_eq_some_iff.mp e
    split at e2 <;> cases e2
  dj := fun i j ds es a b e => by
    unfold toP at e
    rw [List.getElem?_map] at e
    obtain ⟨o, e1, e2⟩ := Option.map_eq_some_iff.mp e
    split at e2 <;> cases e2
  raw := fun i a e => by
    unfold toP at e
    rw [List.getElem?_map] at e
    obtain ⟨o, e1, e2⟩ := Option.map_eq_some_iff.mp e
    split at e2 <;> cases e2
theorem MS.shown (S : MS T K cl F0 H0 κ0 σ F H κ ρ μ) : State T K (shF μ κ F H) H σ (shF μ κ F H) H (toS μ ρ) where
  g := Grow.refl (shF_sub S.st S.s)
  ln := by unfold toS; rw [List.length_map]; exact S.ln
  va := fun i d e => by
    unfold toS at e
    rw [List.getElem?_map] at e
    obtain ⟨o, e1, e2⟩ := Option.map_eq_some_iff.mp e
    split at e2
    · split at e2
      · cases e2
        rename_i e3
        obtain ⟨v, h1, r⟩ := S.sl i _ e1
        exact ⟨v, h1, dat_rp S.st 6 r e3⟩
      · cases e2
    · cases e2
  ow := fun i ds e => by
    unfold toS at e
    rw [List.getElem?_map] at e
    obtain ⟨o, e1, e2⟩ := Option.map_eq_some_iff.mp e
    split at e2
    · split at e2 <;> cases e2
    · cases e2
  dj := fun i j ds es a b e => by
    unfold toS at e
    rw [List.getElem?_map] at e
    obtain ⟨o, e1, e2⟩ := Option.map_eq_some_iff.mp e
    split at e2
    · split at e2 <;> cases e2
    · cases e2
  raw := fun i a e => by
    unfold toS at e
    rw [List.getElem?_map] at e
    obtain ⟨o, e1, e2⟩ := Option.map_eq_some_iff.mp e
    split at e2
    · split at e2 <;> cases e2
    · cases e2
end
/-! ### pure expressions -/
def yP (m : Pd.M D) : YM W := fun ρ μ => (m (toP ρ)).map fun d => (.da d, μ)
def yPT (m : Pd.M Bool) : YM Bool := fun ρ μ => (m (toP ρ)).map fun b => (b, μ)
def yPA (m : Pd.M (List D)) : YM (List W) := fun ρ μ => (m (toP ρ)).map fun ds => (ds.map .da, μ)
/-- cells are seen as data; what comes out holds nothing that may be changed -/
def yS (m : Pd.M D) : YM W := fun ρ μ => (m (toS μ ρ)).bind fun d => if hard d = true then some (.da d, μ) else none
def yST (m : Pd.M Bool) : YM Bool := fun ρ μ => (m (toS μ ρ)).map fun b => (b, μ)
/-- a new list, which stays, of things that can't be changed -/
def ySL (m : Pd.M (List D)) : YM W := fun ρ μ => (m (toS μ ρ)).bind fun ds => if hardAll ds = true then some (.da (.list ds), μ) else none
/-- a new list, a cell from here on -/
def yPC (m : Pd.M (List D)) : YM W := fun ρ μ => (m (toP ρ)).map fun ds => (.rf μ.length, μ ++ [.lst (ds.map .da)])
def ySC (m : Pd.M (List D)) : YM W := fun ρ μ => (m (toS μ ρ)).bind fun ds => if hardAll ds = true then some (.rf μ.length, μ ++ [.lst (ds.map .da)]) else none
section
variable {ι : Type} {T : List (Addr × Str)} {K : PySem.W.Frag} {cl : Cf} {X : ι → Cx} {F H F' H' : Hp} {κ : List Addr} {μ : Sto}
theorem rpAll_rws : ∀ {vs : List V} {ds : List D}, RpAll K F vs ds → RWs K F κ vs (ds.map .da)
  | _, _, .nil => .nil
  | _, _, .cons h r => .cons (.da h) (rpAll_rws r)
theorem yd_pure {e : Expr} {m : Pd.M D} (h : XD X T K e m) : YD X T K cl e (yP m) := by
  obtain ⟨t, p, l⟩ := h
  refine ⟨t, p, ?_⟩
  intro F0 H0 κ0 σ F H κ ρ μ w μ' S h Q q
  obtain ⟨d, e1, h⟩ := Option.map_eq_some_iff.mp h
  cases h
  exact l F H σ F H _ d S.pure e1 Q fun v F' H' g r => q v F' H' κ (.of g) (S.st.grow S.s g) (.da r)
theorem yt_pure {e : Expr} {m : Pd.M Bool} (h : XT X T K e m) : YT X T K cl e (yPT m) := by
  obtain ⟨t, p, l⟩ := h
  refine ⟨t, p, ?_⟩
  intro F0 H0 κ0 σ F H κ ρ μ w μ' S h Q q
  obtain ⟨d, e1, h⟩ := Option.map_eq_some_iff.mp h
  cases h
  exact l F H σ F H _ _ S.pure e1 Q fun F' H' g => q F' H' κ (.of g) (S.st.grow S.s g)
theorem ya_pure {es : List Expr} {m : Pd.M (List D)} (h : XA X T K es m) : YA X T K cl es (yPA m) := by
  obtain ⟨t, p, l⟩ := h
  refine ⟨t, p, ?_⟩
  intro F0 H0 κ0 σ F H κ ρ μ w μ' S h Q q
  obtain ⟨d, e1, h⟩ := Option.map_eq_some_iff.mp h
  cases h
  exact l F H σ F H _ d S.pure e1 Q fun vs F' H' g r => q vs F' H' κ (.of g) (S.st.grow S.s g) (rpAll_rws r)
theorem yd_show {e : Expr} {m : Pd.M D} (h : XD X T K e m) : YD X T K cl e (yS m) := by
  obtain ⟨t, p, l⟩ := h
  refine ⟨t, p, ?_⟩
  intro F0 H0 κ0 σ F H κ ρ μ w μ' S h Q q
  obtain ⟨d, e1, h⟩ := Option.bind_eq_some_iff.mp h
  split at h
  · rename_i hd
    cases h
    refine l _ H σ _ H _ d S.shown e1 Q fun v F' H' g r => ?_
    have g' := unF_grow S.st S.s g
    exact q v _ H' κ (.of g') (S.st.grow S.s g') (.da (unF_rp S.st g hd r))
  · cases h
theorem yt_show {e : Expr} {m : Pd.M Bool} (h : XT X T K e m) : YT X T K cl e (yST m) := by
  obtain ⟨t, p, l⟩ := h
  refine ⟨t, p, ?_⟩
  intro F0 H0 κ0 σ F H κ ρ μ w μ' S h Q q
  obtain ⟨d, e1, h⟩ := Option.map_eq_some_iff.mp h
  cases h
  refine l _ H σ _ H _ _ S.shown e1 Q fun F' H' g => ?_
  have g' := unF_grow S.st S.s g
  exact q _ H' κ (.of g') (S.st.grow S.s g')
theorem new_lst {vs : List V} {a : Addr} {ws : List W} (S : StOk K cl F H κ μ) (s : Sub T F H) (g : Grow T F H F' H') (ha : H' a = some (.lst vs)) (hf : F' a = Option.none) (hn : Fre (H a)) (r : RWs K F' κ vs ws) : Mov T F H κ F' H' (κ ++ [a]) ∧ StOk K cl F' H' (κ ++ [a]) (μ ++ [.lst ws]) := by
  have ak : a ∉ κ := fun z => by
    obtain ⟨o, e, nt⟩ := S.mem s z
    exact Fre.not hn e nt
  have S1 := S.grow s g
  refine ⟨⟨g.f, ⟨[a], rfl, fun b hb => by rw [List.mem_singleton.mp hb]; exact ⟨hn, ak⟩⟩, fun b o e nt _ => g.h.old b o e nt, g.h.tabs, g.s, fun b o e q => .inl (g.n b o e q)⟩, ?_⟩
  refine ⟨by rw [List.length_append, List.length_append, S.ln]; rfl, List.nodup_append.mpr ⟨S.nd, by simp, fun c hc b hb z => ?_⟩, fun n d b e1 e2 => ?_⟩
  · rw [List.mem_singleton.mp hb] at z
    exact ak (z ▸ hc)
  · by_cases hl : n < μ.length
    · rw [List.getElem?_append_left hl] at e1
      rw [List.getElem?_append_left (by rw [S.ln]; exact hl)] at e2
      exact CellOk.mono (Same.refl F') (S1.ok n d b e1 e2) fun h => ⟨rfl, h⟩
    · have hm : n < (μ ++ [Cell.lst ws]).length := (List.getElem?_eq_some_iff.mp e1).1
      rw [List.length_append, List.length_singleton] at hm
      have en : n = μ.length := by omega
      subst en
      rw [List.getElem?_append_right (Nat.le_refl _), Nat.sub_self] at e1
      rw [List.getElem?_append_right (by rw [S.ln]; exact Nat.le_refl _), S.ln, Nat.sub_self] at e2
      cases e1
      cases e2
      exact ⟨vs, ha, hf, RWs.mono (Same.refl F') r⟩
theorem key_last {S : StOk K cl F H κ μ} {a : Addr} : (κ ++ [a])[μ.length]? = some a := by
  rw [List.getElem?_append_right (by rw [S.ln]; exact Nat.le_refl _), S.ln, Nat.sub_self]
  rfl
theorem yd_pureC {e : Expr} {m : Pd.M (List D)} (h : XF X T K e m) : YD X T K cl e (yPC m) := by
  obtain ⟨t, p, l⟩ := h
  refine ⟨t, p, ?_⟩
  intro F0 H0 κ0 σ F H κ ρ μ w μ' S h Q q
  obtain ⟨d, e1, h⟩ := Option.map_eq_some_iff.mp h
  cases h
  refine l F H σ F H _ d S.pure e1 Q fun a vs F' H' g ha hf hn r => ?_
  obtain ⟨m1, s1⟩ := new_lst S.st S.s g ha hf hn (rpAll_rws r)
  exact q _ F' H' _ m1 s1 (.rf (key_last (S := S.st)))
theorem yd_showC {e : Expr} {m : Pd.M (List D)} (h : XF X T K e m) : YD X T K cl e (ySC m) := by
  obtain ⟨t, p, l⟩ := h
  refine ⟨t, p, ?_⟩
  intro F0 H0 κ0 σ F H κ ρ μ w μ' S h Q q
  obtain ⟨d, e1, h⟩ := Option.bind_eq_some_iff.mp h
  split at h
  · rename_i hd
    cases h
    refine l _ H σ _ H _ d S.shown e1 Q fun a vs F' H' g ha hf hn r => ?_
    have g' := unF_grow S.st S.s g
    have hf' : unF μ κ F' a = Option.none := by
      unfold unF
      split
      · rfl
      · exact hf
    obtain ⟨m1, s1⟩ := new_lst S.st S.s g' ha hf' hn (rpAll_rws (unF_rpAll S.st g hd r))
    exact q _ _ H' _ m1 s1 (.rf (key_last (S := S.st)))
  · cases h
theorem yd_showL {e : Expr} {m : Pd.M (List D)} (h : XF X T K e m) : YD X T K cl e (ySL m) := by
  obtain ⟨t, p, l⟩ := h
  refine ⟨t, p, ?_⟩
  intro F0 H0 κ0 σ F H κ ρ μ w μ' S h Q q
  obtain ⟨d, e1, h⟩ := Option.bind_eq_some_iff.mp h
  split at h
  · rename_i hd
    cases h
    refine l _ H σ _ H _ d S.shown e1 Q fun a vs F' H' g ha hf hn r => ?_
    have g' := unF_grow S.st S.s g
    have hf' : unF μ κ F' a = Option.none := by
      unfold unF
      split
      · rfl
      · exact hf
    have g2 := keep_new (o := .lst vs) g' ha hf' hn
    have s2 : Same (unF μ κ F') (upd (unF μ κ F') a (.lst vs)) := fun b u e => by rw [upd_ne (ne_of_none e hf')]; exact e
    exact q _ _ H' κ (.of g2) (S.st.grow S.s g2) (.da (.lst (SqL.of upd_same) ((unF_rpAll S.st g hd r).mono s2)))
  · cases h
/-! ### a cell comes to stay -/
def yFrz (a : YM W) : YM W := fun ρ μ => (a ρ μ).bind fun p => match p.1 with
  | .da d => some (.da d, p.2)
  | .rf n => match p.2[n]? with
    | some (.lst ws) => (allDa ws).map fun ds => (.da (.list ds), p.2.set n .gone)
    | _ => none
theorem yd_frz {e : Expr} {a : YM W} (h : YD X T K cl e a) : YD X T K cl e (yFrz a) := by
  obtain ⟨t, p, l⟩ := h
  refine ⟨t, p, ?_⟩
  intro F0 H0 κ0 σ F H κ ρ μ w μ' S h Q q
  unfold yFrz at h
  obtain ⟨⟨x, μ1⟩, e1, h⟩ := Option.bind_eq_some_iff.mp h
  refine l F0 H0 κ0 σ F H κ ρ μ x μ1 S e1 _ fun v F1 H1 κ1 m1 s1 r1 => ?_
  cases r1 with
  | da r1 => cases h; exact q v F1 H1 κ1 m1 s1 (.da r1)
  | rf e2 =>
    simp only at h
    split at h
    · rename_i ws e3
      obtain ⟨ds, e4, h⟩ := Option.map_eq_some_iff.mp h
      cases h
      obtain ⟨vs, a1, a2, a3⟩ := s1.ok _ _ _ e3 e2
      have m2 := frz_mov m1.s a1 (fun _ z => by cases z) a2 (List.mem_of_getElem? e2)
      exact q _ _ H1 κ1 (m1.trans m2) (frz_st s1 e2 a2) (.da (.lst (SqL.of upd_same) ((allDa_rp a3 e4).mono m2.f)))
    · cases h
/-! ### attributes -/
structure ClsF (K : PySem.W.Frag) (cl : Cf) (c : Nat) : Prop where
  cls : Cls K (cl.ad c)
  nd : (cl.nm c).Nodup
  no : ∀ f ∈ cl.nm c, NoAttr K (cl.ad c) f
  few : (cl.nm c).length < 1000
theorem look_at {α : Type} : ∀ {N : List Str} {vs : List (Str × α)} {i : Nat} {f : Str} {v : Str × α}, N.Nodup → vs.map (·.1) = N.take vs.length → N[i]? = some f → vs[i]? = some v → vs.lookup f = some v.2
  | N, [], i, f, v, _, _, _, h => by simp at h
  | [], p :: vs, i, f, v, _, h, _, _ => by simp at h
  | g :: N, (g', x) :: vs, i, f, v, nd, h, e1, e2 => by
    simp only [List.map_cons, List.length_cons, List.take_succ_cons, List.cons.injEq] at h
    obtain ⟨rfl, h⟩ := h
    cases i with
    | zero =>
      simp only [List.getElem?_cons_zero, Option.some.injEq] at e1 e2
      subst e1 e2
      simp
    | succ i =>
      rw [List.getElem?_cons_succ] at e1 e2
      have nd' := List.nodup_cons.mp nd
      have ne : f ≠ g' := fun z => nd'.1 (z ▸ List.mem_of_getElem? e1)
      rw [List.lookup_cons, show (f == g') = false from beq_eq_false_iff_ne.mpr ne]
      exact look_at nd'.2 h e1 e2
theorem put_at {v : V} : ∀ {N : List Str} {vs : List (Str × V)} {i : Nat} {f : Str}, N.Nodup → vs.map (·.1) = N.take vs.length → vs.length ≤ N.length → N[i]? = some f → i ≤ vs.length →
    (putF f v vs).map (·.1) = N.take (putF f v vs).length ∧ (putF f v vs).map (·.2) = if i < vs.length then (vs.map (·.2)).set i v else vs.map (·.2) ++ [v]
  | N, [], i, f, nd, h, hl, e1, hi => by
    have e : i = 0 := by simpa using hi
    subst e
    cases N with
    | nil => simp at e1
    | cons g N => simp at e1; subst e1; simp [putF]
  | [], p :: vs, i, f, _, h, _, _, _ => by simp at h
  | g :: N, (g', x) :: vs, i, f, nd, h, hl, e1, hi => by
    simp only [List.map_cons, List.length_cons, List.take_succ_cons, List.cons.injEq] at h
    obtain ⟨rfl, h⟩ := h
    have nd' := List.nodup_cons.mp nd
    cases i with
    | zero =>
      simp only [List.getElem?_cons_zero, Option.some.injEq] at e1
      subst e1
      unfold putF
      rw [if_pos rfl]
      simp [h]
    | succ i =>
      rw [List.getElem?_cons_succ] at e1
      have ne : g' ≠ f := fun z => nd'.1 (z ▸ List.mem_of_getElem? e1)
      have ih := put_at (v := v) nd'.2 h (by simpa using hl) e1 (by simpa using hi)
      unfold putF
      rw [if_neg ne]
      refine ⟨by simp [ih.1], ?_⟩
      rw [List.map_cons, ih.2]
      simp only [List.length_cons, Nat.add_lt_add_iff_right, List.map_cons]
      split <;> simp
def yAttr (c i : Nat) (a : YM W) : YM W := fun ρ μ => (a ρ μ).bind fun p => match p.1 with
  | .rf n => match p.2[n]? with
    | some (.ins c' ws) => if c' = c then (ws[i]?).map fun w => (w, p.2) else none
    | _ => none
  | _ => none
theorem yd_attr {e : Expr} {f : Str} {a : YM W} {pos : Pos} (c i : Nat) (C : ClsF K cl c) (hf : (cl.nm c)[i]? = some f) (ha : YD X T K cl e a) (hb : ∀ i0, attributeBase e f (X i0).env (eval e (X i0).env) = eval e (X i0).env := by intro _; rfl) (k : ∀ i0, (X i0).K = K := by intro _; rfl) : YD X T K cl (.Attribute e f pos) (yAttr c i a) := by
  obtain ⟨t, p, l⟩ := ha
  refine ⟨tFld K t f, fun i0 => by have e := k i0; subst e; exact pe_fld (p i0) (hb i0), ?_⟩
  intro F0 H0 κ0 σ F H κ ρ μ w μ' S h Q q
  unfold yAttr at h
  obtain ⟨⟨x, μ1⟩, e1, h1⟩ := Option.bind_eq_some_iff.mp h
  clear h
  refine l F0 H0 κ0 σ F H κ ρ μ x μ1 S e1 _ fun v F1 H1 κ1 m1 s1 r1 => ?_
  clear e1
  cases r1 with
  | da r1 => cases h1
  | rf e2 =>
    simp only at h1
    split at h1
    · rename_i c' ws e3
      split at h1
      · rename_i ec
        subst ec
        obtain ⟨w', e4, h2⟩ := Option.map_eq_some_iff.mp h1
        cases h2
        obtain ⟨dx, vs, a1, a2, a3, a4, a5⟩ := s1.ok _ _ _ e3 e2
        obtain ⟨y, e5, r5⟩ := pr_get a5 e4
        rw [List.getElem?_map] at e5
        obtain ⟨fv, e6, e7⟩ := Option.map_eq_some_iff.mp e5
        subst e7
        have hl : vs.length = ws.length := by have := pr_len a5; rwa [List.length_map] at this
        exact ⟨_, _, dx, vs, _, rfl, a1, C.cls, C.no f (List.mem_of_getElem? hf), look_at C.nd (by rw [hl]; exact a3) hf e6, q _ F1 H1 κ1 m1 s1 r5⟩
      · cases h1
    · cases h1
/-! ### items of cells -/
def yIx (a b : YM W) : YM W := fun ρ μ => (a ρ μ).bind fun p => (b ρ p.2).bind fun q => match p.1, q.1 with
  | .rf n, .da (.int i) => match q.2[n]? with
    | some (.lst ws) => (atI ws i).map fun w => (w, q.2)
    | _ => none
  | _, _ => none
theorem atI_pr {α β : Type} {R : α → β → Prop} {xs : List α} {ys : List β} {i : Int} {y : β} (r : Paired R xs ys) (h : atI ys i = some y) : ∃ x, atI xs i = some x ∧ R x y := by
  unfold atI at h ⊢
  rw [pr_len r]
  obtain ⟨j, e1, e2⟩ := Option.bind_eq_some_iff.mp h
  obtain ⟨x, e3, r3⟩ := pr_get r e2
  exact ⟨x, by rw [e1]; exact e3, r3⟩
theorem yd_ix {a b : Expr} {ma mb : YM W} {pos : Pos} (ha : YD X T K cl a ma) (hb : YD X T K cl b mb) (hp : PlainIx b := by intro _ _; rfl) (k : ∀ i0, (X i0).K = K := by intro _; rfl) : YD X T K cl (.Subscript a b pos) (yIx ma mb) := by
  obtain ⟨t, p, l⟩ := ha
  obtain ⟨u, p2, l2⟩ := hb
  refine ⟨tOp (rIx K) t u, fun i0 => by have e := k i0; subst e; exact pe_ix ix_seq (p i0) (p2 i0) hp, ?_⟩
  intro F0 H0 κ0 σ F H κ ρ μ w μ' S h Q q
  unfold yIx at h
  obtain ⟨⟨x, μ1⟩, e1, h⟩ := Option.bind_eq_some_iff.mp h
  obtain ⟨⟨y, μ2⟩, e2, h⟩ := Option.bind_eq_some_iff.mp h
  refine l F0 H0 κ0 σ F H κ ρ μ x μ1 S e1 _ fun v F1 H1 κ1 m1 s1 r1 => ?_
  refine l2 F0 H0 κ0 σ F1 H1 κ1 ρ μ1 y μ2 (S.move m1 s1) e2 _ fun u F2 H2 κ2 m2 s2 r2 => ?_
  have r1' := m2.rw r1
  simp only at h
  split at h
  · split at h
    · rename_i ws e3
      obtain ⟨w', e4, h⟩ := Option.map_eq_some_iff.mp h
      cases h
      cases r1' with
      | rf e5 =>
        cases r2 with
        | da r2 =>
          cases r2
          obtain ⟨vs, a1, a2, a3⟩ := s2.ok _ _ _ e3 e5
          obtain ⟨y, e6, r6⟩ := atI_pr a3 e4
          exact .inl ⟨_, vs, _, y, rfl, rfl, SqL.of a1, e6, q y F2 H2 κ2 (m1.trans m2) s2 r6⟩
    · cases h
  · cases h
/-- an item of data -/
theorem yd_ixD {a b : Expr} {ma mb : YM W} {pos : Pos} (ha : YD X T K cl a ma) (hb : YD X T K cl b mb) (hp : PlainIx b := by intro _ _; rfl) (k : ∀ i0, (X i0).K = K := by intro _; rfl) : YD X T K cl (.Subscript a b pos) (y2 dIx ma mb) := by
  obtain ⟨t, p, l⟩ := ha
  obtain ⟨u, p2, l2⟩ := hb
  exact ⟨tOp (rIx K) t u, fun i0 => by have e := k i0; subst e; exact pe_ix ix_seq (p i0) (p2 i0) hp, ey_op ol_ix l l2⟩
/-! ### displays -/
theorem yd_tup {es : List Expr} {m : YM (List W)} {k : Nat} {pos : Pos} (ha : YA X T K cl es m) : YD X T K cl (.Tuple es k pos) (yA dTup m) := by
  obtain ⟨t, p, l⟩ := ha
  refine ⟨_, fun i0 => pe_tup (p i0), ?_⟩
  intro F0 H0 κ0 σ F H κ ρ μ w μ' S h Q q
  unfold yA at h
  obtain ⟨⟨ws, μ1⟩, e1, h⟩ := Option.bind_eq_some_iff.mp h
  obtain ⟨ds, e2, h⟩ := Option.bind_eq_some_iff.mp h
  obtain ⟨d, e3, h⟩ := Option.map_eq_some_iff.mp h
  cases h
  refine l F0 H0 κ0 σ F H κ ρ μ ws μ1 S e1 _ fun vs F1 H1 κ1 m1 s1 r1 => ?_
  have r2 := allDa_rp r1 e2
  unfold dTup at e3
  split at e3
  · rename_i hz
    cases e3
    refine ⟨by rw [r2.length]; exact hz, fun p hp => ?_⟩
    have g := Grow.new (T := T) (o := .tup vs) m1.s hp
    exact q _ _ _ κ1 (m1.trans (.of g)) (s1.grow m1.s g) (.da (.tup (SqT.of upd_same) (r2.mono g.f)))
  · cases e3
theorem yd_lst {es : List Expr} {m : YM (List W)} {pos : Pos} (ha : YA X T K cl es m) : YD X T K cl (.List es pos) (yA dLst m) := by
  obtain ⟨t, p, l⟩ := ha
  refine ⟨_, fun i0 => pe_lst (p i0), ?_⟩
  intro F0 H0 κ0 σ F H κ ρ μ w μ' S h Q q
  unfold yA at h
  obtain ⟨⟨ws, μ1⟩, e1, h⟩ := Option.bind_eq_some_iff.mp h
  obtain ⟨ds, e2, h⟩ := Option.bind_eq_some_iff.mp h
  obtain ⟨d, e3, h⟩ := Option.map_eq_some_iff.mp h
  cases h
  refine l F0 H0 κ0 σ F H κ ρ μ ws μ1 S e1 _ fun vs F1 H1 κ1 m1 s1 r1 => ?_
  have r2 := allDa_rp r1 e2
  unfold dLst at e3
  split at e3
  · rename_i hz
    cases e3
    refine ⟨by rw [r2.length]; exact hz, fun p hp => ?_⟩
    have g := Grow.new (T := T) (o := .lst vs) m1.s hp
    exact q _ _ _ κ1 (m1.trans (.of g)) (s1.grow m1.s g) (.da (.lst (SqL.of upd_same) (r2.mono g.f)))
  · cases e3
/-- a list display as a cell -/
def yLstC (m : YM (List W)) : YM W := fun ρ μ => (m ρ μ).bind fun p => if p.1.length ≤ sizeLine then some (.rf p.2.length, p.2 ++ [.lst p.1]) else none
theorem new_cell {p : Addr} {o : HO} {c : Cell} (S : StOk K cl F H κ μ) (s : Sub T F H) (hp : H p = Option.none) (new : CellOk K cl F (upd H p o) (κ ++ [p]) p c) :
    Mov T F H κ F (upd H p o) (κ ++ [p]) ∧ StOk K cl F (upd H p o) (κ ++ [p]) (μ ++ [c]) ∧ RW K F (κ ++ [p]) (.ref p) (.rf μ.length) :=
  ⟨Mov.new S s hp, S.new s hp new, .rf (key_last (S := S))⟩
theorem yd_lstC {es : List Expr} {m : YM (List W)} {pos : Pos} (ha : YA X T K cl es m) : YD X T K cl (.List es pos) (yLstC m) := by
  obtain ⟨t, p, l⟩ := ha
  refine ⟨_, fun i0 => pe_lst (p i0), ?_⟩
  intro F0 H0 κ0 σ F H κ ρ μ w μ' S h Q q
  unfold yLstC at h
  obtain ⟨⟨ws, μ1⟩, e1, h⟩ := Option.bind_eq_some_iff.mp h
  refine l F0 H0 κ0 σ F H κ ρ μ ws μ1 S e1 _ fun vs F1 H1 κ1 m1 s1 r1 => ?_
  simp only at h
  split at h
  · rename_i hz
    cases h
    refine ⟨by rw [pr_len r1]; exact hz, fun p hp => ?_⟩
    obtain ⟨m2, s2, r2⟩ := new_cell (c := .lst ws) s1 m1.s hp ⟨vs, upd_same, m1.s.same.free hp, RWs.mono (Same.refl F1) r1⟩
    exact q _ _ _ _ (m1.trans m2) s2 r2
  · cases h
def yDctN : YM W := fun _ μ => some (.rf μ.length, μ ++ [.dct []])
theorem yd_dctN {pos : Pos} : YD X T K cl (.Dict [] [] pos) yDctN := by
  refine ⟨_, fun i0 => pe_dnewK, ?_⟩
  intro F0 H0 κ0 σ F H κ ρ μ w μ' S h Q q p hp
  cases h
  obtain ⟨m2, s2, r2⟩ := new_cell (c := .dct []) S.st S.s hp ⟨[], upd_same, S.s.same.free hp, .nil⟩
  exact q _ _ _ _ m2 s2 r2
end
end Md

/-! Md3: targets, statements, loops, comprehensions over a store. -/
namespace Md
open PySem PySem.Spec PyProof.Rows L2 Pd
inductive YO where
  | nx (ρ : YF)
  | rt (w : W)
  | bk (ρ : YF)
  | ct (ρ : YF)
  | ex (n : Str) (ρ : YF)
def YPost (T : List (Addr × Str)) (K : PySem.W.Frag) (cl : Cf) (Wx : WN) (F0 H0 : Hp) (κ0 : List Addr) (F1 H1 : Hp) (κ1 : List Addr) (De : Ends) : YO → Sto → Prop
  | .nx ρ, μ => ∀ σ F H κ, MS T K cl F0 H0 κ0 σ F H κ ρ μ → Mov T F1 H1 κ1 F H κ → De.nx σ H
  | .rt w, μ => ∀ v F H κ, Mov T F0 H0 κ0 F H κ → StOk K cl F H κ μ → RW K F κ v w → De.rt v H
  | .bk ρ, μ => ∀ σ F H κ, MS T K cl F0 H0 κ0 σ F H κ ρ μ → Mov T F1 H1 κ1 F H κ → De.bk σ H
  | .ct ρ, μ => ∀ σ F H κ, MS T K cl F0 H0 κ0 σ F H κ ρ μ → Mov T F1 H1 κ1 F H κ → De.ct σ H
  | .ex n ρ, μ => ∀ σ F H κ, MS T K cl F0 H0 κ0 σ F H κ ρ μ → Mov T F1 H1 κ1 F H κ → Wx n σ H
section
variable {T : List (Addr × Str)} {K : PySem.W.Frag} {cl : Cf} {Wx : WN} {F0 H0 F1 H1 F2 H2 F H F' H' : Hp} {κ0 κ1 κ2 κ κ' : List Addr} {De : Ends} {o : YO} {μ μ' : Sto} {a : Addr}
theorem YPost.move (m : Mov T F1 H1 κ1 F2 H2 κ2) (h : YPost T K cl Wx F0 H0 κ0 F1 H1 κ1 De o μ) : YPost T K cl Wx F0 H0 κ0 F2 H2 κ2 De o μ := by
  cases o with
  | nx ρ => exact fun σ F H κ S s2 => h σ F H κ S (m.trans s2)
  | rt d => exact h
  | bk ρ => exact fun σ F H κ S s2 => h σ F H κ S (m.trans s2)
  | ct ρ => exact fun σ F H κ S s2 => h σ F H κ S (m.trans s2)
  | ex n ρ => exact fun σ F H κ S s2 => h σ F H κ S (m.trans s2)
/-! ### an object of one's own that is no cell: a comprehension's list -/
theorem Mov.put {us : List V} {o : HO} (m : Mov T F H κ F' H' κ') (hn : Fre (H a)) (ha : H' a = some (.lst us)) (hf : F' a = Option.none) : Mov T F H κ F' (upd H' a o) κ' :=
  ⟨m.f, m.c, fun b x e nt hb => by rw [upd_ne (hn.ne e nt)]; exact m.keep b x e nt hb, fun t => Tabs_put ha (m.tabs t),
    ⟨fun b x e => by rw [upd_ne (ne_of_none e hf)]; exact m.s.same _ _ e, m.s.nt, Tabs_put ha m.s.tabs⟩, m.n⟩
theorem StOk.put {o : HO} (S : StOk K cl F H κ μ) (ha : a ∉ κ) : StOk K cl F (upd H a o) κ μ := by
  refine ⟨S.ln, S.nd, fun n c b e1 e2 => ?_⟩
  have z := CellOk.mono (H' := upd H a o) (r := []) (Same.refl F) (S.ok n c b e1 e2) fun hf => ⟨upd_ne fun z => ha (z ▸ List.mem_of_getElem? e2), hf⟩
  simpa using z
theorem Mov.own {us : List V} (m : Mov T F H κ F' H' κ') (ha : H a = some (.lst us)) (hf : F a = Option.none) (hk : a ∉ κ) : H' a = some (.lst us) ∧ F' a = Option.none ∧ a ∉ κ' := by
  have nt : noT (.lst us) := fun ps z => by cases z
  refine ⟨m.keep a _ ha nt hk, ?_, ?_⟩
  · cases q : F' a with
    | none => rfl
    | some x =>
      rcases m.n a x q hf with h | h
      · exact Fre.not h ha nt
      · exact absurd h hk
  · obtain ⟨r, e, h⟩ := m.c
    rw [e]
    intro z
    rcases List.mem_append.mp z with z | z
    · exact hk z
    · exact Fre.not (h a z).1 ha nt
/-- it comes to stay -/
theorem Mov.frz {vs : List V} (m : Mov T F H κ F' H' κ') (S : StOk K cl F' H' κ' μ) (ha : H' a = some (.lst vs)) (hf : F' a = Option.none) (hk : a ∉ κ') (hn : Fre (H a)) :
    Mov T F H κ (upd F' a (.lst vs)) H' κ' ∧ StOk K cl (upd F' a (.lst vs)) H' κ' μ ∧ Same F' (upd F' a (.lst vs)) := by
  have s2 : Same F' (upd F' a (.lst vs)) := fun b x q => by rw [upd_ne (ne_of_none q hf)]; exact q
  refine ⟨⟨m.f.trans s2, m.c, m.keep, m.tabs, ⟨fun b x e => ?_, fun b ps e => ?_, m.s.tabs⟩, fun b x e q => ?_⟩, ⟨S.ln, S.nd, fun n c b e1 e2 => ?_⟩, s2⟩
  · by_cases hb : b = a
    · subst hb; rw [upd_same] at e; cases e; exact ha
    · rw [upd_ne hb] at e; exact m.s.same _ _ e
  · by_cases hb : b = a
    · subst hb; rw [upd_same] at e; cases e
    · rw [upd_ne hb] at e; exact m.s.nt b ps e
  · by_cases hb : b = a
    · subst hb; exact .inl hn
    · rw [upd_ne hb] at e; exact m.n b x e q
  · have ne : b ≠ a := fun z => hk (z ▸ List.mem_of_getElem? e2)
    have z := CellOk.mono (H' := H') (r := []) s2 (S.ok n c b e1 e2) fun h => ⟨rfl, by rw [upd_ne ne]; exact h⟩
    simpa using z
/-- it comes to be a cell -/
theorem Mov.cell {vs : List V} {ws : List W} (m : Mov T F H κ F' H' κ') (S : StOk K cl F' H' κ' μ) (S0 : StOk K cl F H κ μ') (s0 : Sub T F H) (ha : H' a = some (.lst vs)) (hf : F' a = Option.none) (hk : a ∉ κ') (hn : Fre (H a)) (r : RWs K F' κ' vs ws) :
    Mov T F H κ F' H' (κ' ++ [a]) ∧ StOk K cl F' H' (κ' ++ [a]) (μ ++ [.lst ws]) ∧ RW K F' (κ' ++ [a]) (.ref a) (.rf μ.length) := by
  refine ⟨⟨m.f, ?_, m.keep, m.tabs, m.s, m.n⟩, ⟨by rw [List.length_append, List.length_append, S.ln]; rfl, List.nodup_append.mpr ⟨S.nd, by simp, fun c hc b hb z => ?_⟩, fun n d b e1 e2 => ?_⟩, .rf (key_last (S := S))⟩
  · obtain ⟨r, e, h⟩ := m.c
    refine ⟨r ++ [a], by rw [e, List.append_assoc], fun b hb => ?_⟩
    rcases List.mem_append.mp hb with hb | hb
    · exact h b hb
    · rw [List.mem_singleton.mp hb]
      refine ⟨hn, fun z => ?_⟩
      obtain ⟨o, e, nt⟩ := S0.mem s0 z
      exact Fre.not hn e nt
  · rw [List.mem_singleton.mp hb] at z
    exact hk (z ▸ hc)
  · by_cases hl : n < μ.length
    · rw [List.getElem?_append_left hl] at e1
      rw [List.getElem?_append_left (by rw [S.ln]; exact hl)] at e2
      exact CellOk.mono (Same.refl F') (S.ok n d b e1 e2) fun h => ⟨rfl, h⟩
    · have hm : n < (μ ++ [Cell.lst ws]).length := (List.getElem?_eq_some_iff.mp e1).1
      rw [List.length_append, List.length_singleton] at hm
      have en : n = μ.length := by omega
      subst en
      rw [List.getElem?_append_right (Nat.le_refl _), Nat.sub_self] at e1
      rw [List.getElem?_append_right (by rw [S.ln]; exact Nat.le_refl _), S.ln, Nat.sub_self] at e2
      cases e1
      cases e2
      exact ⟨vs, ha, hf, RWs.mono (Same.refl F') r⟩
end
def SY (T : List (Addr × Str)) (K : PySem.W.Frag) (cl : Cf) (Wx : WN) (ts : TS) (m : YM YO) : Prop := ∀ (F0 H0 : Hp) (κ0 : List Addr) (σ : St) (F H : Hp) (κ : List Addr) (ρ : YF) (μ : Sto) (o : YO) (μ' : Sto) (De : Ends), MS T K cl F0 H0 κ0 σ F H κ ρ μ → m ρ μ = some (o, μ') → YPost T K cl Wx F0 H0 κ0 F H κ De o μ' → ts De σ H
def YS {ι : Type} (X : ι → Cx) (T : List (Addr × Str)) (K : PySem.W.Frag) (cl : Cf) (Wx : WN) (st : Stmt) (m : YM YO) : Prop := ∃ t, (∀ i, PS (X i) st t) ∧ SY T K cl Wx t m
def YSs {ι : Type} (X : ι → Cx) (T : List (Addr × Str)) (K : PySem.W.Frag) (cl : Cf) (Wx : WN) (sts : List Stmt) (m : YM YO) : Prop := ∃ t, (∀ i, PSs (X i) sts t) ∧ SY T K cl Wx t m
def yNext : YM YO := fun ρ μ => some (.nx ρ, μ)
def yBk : YM YO := fun ρ μ => some (.bk ρ, μ)
def yCt : YM YO := fun ρ μ => some (.ct ρ, μ)
def yNever : YM YO := fun _ _ => none
def ySeq (a b : YM YO) : YM YO := fun ρ μ => (a ρ μ).bind fun p => match p.1 with
  | .nx ρ2 => b ρ2 p.2
  | o => some (o, p.2)
def yRet (a : YM W) : YM YO := fun ρ μ => (a ρ μ).map fun p => (.rt p.1, p.2)
def yRetN : YM YO := fun _ μ => some (.rt (.da .none), μ)
def yIfS (c : YM Bool) (a b : YM YO) : YM YO := fun ρ μ => (c ρ μ).bind fun p => if p.1 = true then a ρ p.2 else b ρ p.2
def yDrop (a : YM W) : YM YO := fun ρ μ => (a ρ μ).map fun p => (.nx ρ, p.2)
section
variable {ι : Type} {T : List (Addr × Str)} {K : PySem.W.Frag} {cl : Cf} {Wx : WN} {X : ι → Cx}
theorem yss_nil : YSs X T K cl Wx [] yNext := ⟨_, fun _ => pss_nil, by
  intro F0 H0 κ0 σ F H κ ρ μ o μ' De S h Q
  cases h
  exact Q σ F H κ S (Mov.refl S.s)⟩
theorem yss_cons {st : Stmt} {sts : List Stmt} {a b : YM YO} (h1 : YS X T K cl Wx st a) (h2 : YSs X T K cl Wx sts b) : YSs X T K cl Wx (st :: sts) (ySeq a b) := by
  obtain ⟨t, p, l⟩ := h1
  obtain ⟨u, p2, l2⟩ := h2
  refine ⟨_, fun i => pss_cons (p i) (p2 i), ?_⟩
  intro F0 H0 κ0 σ F H κ ρ μ o μ' De S h Q
  unfold ySeq at h
  obtain ⟨⟨o1, μ1⟩, e1, h⟩ := Option.bind_eq_some_iff.mp h
  refine l F0 H0 κ0 σ F H κ ρ μ o1 μ1 _ S e1 ?_
  cases o1 with
  | nx ρ2 => exact fun σ' F' H' κ' S' s' => l2 F0 H0 κ0 σ' F' H' κ' ρ2 μ1 o μ' De S' h (Q.move s')
  | rt d => cases h; exact Q
  | bk ρ2 => cases h; exact Q
  | ct ρ2 => cases h; exact Q
  | ex n ρ2 => cases h; exact Q
theorem yss_one {st : Stmt} {a : YM YO} (h1 : YS X T K cl Wx st a) : YSs X T K cl Wx [st] a := by
  obtain ⟨t, p, l⟩ := h1
  exact ⟨t, fun i => pss_one (p i), l⟩
/-- a statement that is not come to -/
theorem ys_never {st : Stmt} : YS X T K cl Wx st yNever := ⟨fun _ _ _ => False, fun _ => ⟨fun pins s σ H D I h => h.elim⟩, by
  intro F0 H0 κ0 σ F H κ ρ μ o μ' De S h Q
  cases h⟩
theorem ys_pass {pos : Pos} : YS X T K cl Wx (.Pass pos) yNext := ⟨_, fun _ => ps_pass, by
  intro F0 H0 κ0 σ F H κ ρ μ o μ' De S h Q
  cases h
  exact Q σ F H κ S (Mov.refl S.s)⟩
theorem ys_break {pos : Pos} : YS X T K cl Wx (.Break pos) yBk := ⟨_, fun _ => ps_break, by
  intro F0 H0 κ0 σ F H κ ρ μ o μ' De S h Q
  cases h
  exact Q σ F H κ S (Mov.refl S.s)⟩
theorem ys_continue {pos : Pos} : YS X T K cl Wx (.Continue pos) yCt := ⟨_, fun _ => ps_continue, by
  intro F0 H0 κ0 σ F H κ ρ μ o μ' De S h Q
  cases h
  exact Q σ F H κ S (Mov.refl S.s)⟩
theorem ys_ret {e : Expr} {a : YM W} {pos : Pos} (ha : YD X T K cl e a) : YS X T K cl Wx (.Return (some e) pos) (yRet a) := by
  obtain ⟨t, p, l⟩ := ha
  refine ⟨_, fun i => ps_ret (p i), ?_⟩
  intro F0 H0 κ0 σ F H κ ρ μ o μ' De S h Q
  obtain ⟨⟨w, μ1⟩, e1, h⟩ := Option.map_eq_some_iff.mp h
  cases h
  exact l F0 H0 κ0 σ F H κ ρ μ w _ S e1 _ fun v F1 H1 κ1 m1 s1 r1 => Q v F1 H1 κ1 (S.g.trans m1) s1 r1
theorem ys_retN {pos : Pos} : YS X T K cl Wx (.Return none pos) yRetN := ⟨_, fun _ => ps_retN, by
  intro F0 H0 κ0 σ F H κ ρ μ o μ' De S h Q
  cases h
  exact Q .non F H κ S.g S.st (.da .non)⟩
theorem ys_if {c : Expr} {a b : List Stmt} {mc : YM Bool} {ma mb : YM YO} {pos : Pos} (hc : YT X T K cl c mc) (ha : YSs X T K cl Wx a ma) (hb : YSs X T K cl Wx b mb) : YS X T K cl Wx (.If c a b pos) (yIfS mc ma mb) := by
  obtain ⟨t, p, l⟩ := hc
  obtain ⟨u, p2, l2⟩ := ha
  obtain ⟨w, p3, l3⟩ := hb
  refine ⟨_, fun i => ps_if (p i) (p2 i) (p3 i), ?_⟩
  intro F0 H0 κ0 σ F H κ ρ μ o μ' De S h Q
  unfold yIfS at h
  obtain ⟨⟨x, μ1⟩, e1, h⟩ := Option.bind_eq_some_iff.mp h
  refine l F0 H0 κ0 σ F H κ ρ μ x μ1 S e1 _ fun F1 H1 κ1 m1 s1 => ?_
  cases x with
  | true =>
    simp only [if_true] at h ⊢
    exact l2 F0 H0 κ0 σ F1 H1 κ1 ρ μ1 o μ' De (S.move m1 s1) h (Q.move m1)
  | false =>
    simp only [Bool.false_eq_true, if_false] at h ⊢
    exact l3 F0 H0 κ0 σ F1 H1 κ1 ρ μ1 o μ' De (S.move m1 s1) h (Q.move m1)
theorem ys_expr {e : Expr} {a : YM W} {pos : Pos} (ha : YD X T K cl e a) (hs : ∀ i0, swapsWith e none pos.line (X i0).env = pure false := by intro _; rfl) : YS X T K cl Wx (.Expr e pos) (yDrop a) := by
  obtain ⟨t, p, l⟩ := ha
  refine ⟨tDrop t, fun i => ps_expr (p i) (hs i), ?_⟩
  intro F0 H0 κ0 σ F H κ ρ μ o μ' De S h Q
  obtain ⟨⟨w, μ1⟩, e1, h⟩ := Option.map_eq_some_iff.mp h
  cases h
  exact l F0 H0 κ0 σ F H κ ρ μ w _ S e1 _ fun v F1 H1 κ1 m1 s1 r1 => Q σ F1 H1 κ1 (S.move m1 s1) m1
/-! ### targets -/
def GY (T : List (Addr × Str)) (K : PySem.W.Frag) (cl : Cf) (tg : TG) (is : List Nat) (g : W → YF → Option YF) : Prop := ∀ (F0 H0 : Hp) (κ0 : List Addr) (σ : St) (F H : Hp) (κ : List Addr) (ρ : YF) (μ : Sto) (v : V) (w : W) (ρ' : YF), MS T K cl F0 H0 κ0 σ F H κ ρ μ → RW K F κ v w → g w ρ = some ρ' →
  ∀ Q : St → Hp → Prop, (∀ σ', MS T K cl F0 H0 κ0 σ' F H κ ρ' μ → (∀ vs : List Nat, (∀ i ∈ is, i ∈ vs) → wipe σ' vs = wipe σ vs) → Q σ' H) → tg v σ H Q
def YG {ι : Type} (X : ι → Cx) (T : List (Addr × Str)) (K : PySem.W.Frag) (cl : Cf) (e : Expr) (is : List Nat) (g : W → YF → Option YF) : Prop := ∃ t, (∀ i, PG (X i) e t) ∧ GY T K cl t is g
def GsY (T : List (Addr × Str)) (K : PySem.W.Frag) (cl : Cf) (tg : TGs) (is : List Nat) (g : List D → YF → Option YF) : Prop := ∀ (F0 H0 : Hp) (κ0 : List Addr) (σ : St) (F H : Hp) (κ : List Addr) (ρ : YF) (μ : Sto) (vs : List V) (ds : List D) (ρ' : YF), MS T K cl F0 H0 κ0 σ F H κ ρ μ → RpAll K F vs ds → g ds ρ = some ρ' →
  ∀ Q : St → Hp → Prop, (∀ σ', MS T K cl F0 H0 κ0 σ' F H κ ρ' μ → (∀ vs : List Nat, (∀ i ∈ is, i ∈ vs) → wipe σ' vs = wipe σ vs) → Q σ' H) → tg vs σ H Q
def YGs {ι : Type} (X : ι → Cx) (T : List (Addr × Str)) (K : PySem.W.Frag) (cl : Cf) (es : List Expr) (is : List Nat) (g : List D → YF → Option YF) : Prop := ∃ t, (∀ i, PGs (X i) es t) ∧ GsY T K cl t is g
def ygSet (i : Nat) : W → YF → Option YF := fun w ρ => if i < ρ.length then some (ρ.set i (some w)) else none
def ygNil : List D → YF → Option YF
  | [], ρ => some ρ
  | _, _ => none
def ygCons (g : W → YF → Option YF) (r : List D → YF → Option YF) : List D → YF → Option YF
  | d :: ds, ρ => (g (.da d) ρ).bind (r ds)
  | [], _ => none
def ygTup (n : Nat) (g : List D → YF → Option YF) : W → YF → Option YF := fun w ρ => match w with
  | .da (.tuple xs) => if xs.length = n then g xs ρ else none
  | _ => none
theorem yg_name (i : Nat) {x : Str} {pos : Pos} (hN : ∀ i0, (X i0).N.Nodup) (hi : ∀ i0, (X i0).N[i]? = some x := by intro _; rfl) (hx : ∀ i0, Loc (X i0).env.scope x := by intro _; first | exact Or.inl rfl | exact Or.inr rfl) (hf : ∀ i0, (X i0).fn x = true ∨ (X i0).env.scope.names.lookup x = some .local := by intro _; first | exact .inl rfl | exact .inr rfl) : YG X T K cl (.Name x pos) [i] (ygSet i) := by
  refine ⟨_, fun i0 => pg_name (hN i0) (hi i0) (hx i0) (hf i0), ?_⟩
  intro F0 H0 κ0 σ F H κ ρ μ v w ρ' S r h Q q
  unfold ygSet at h
  split at h
  · rename_i hl
    cases h
    exact q _ (S.set r hl) fun vs hvs => wipe_set (hvs i List.mem_cons_self)
  · cases h
theorem ygs_nil : YGs X T K cl [] [] ygNil := by
  refine ⟨_, fun i0 => pgs_nil, ?_⟩
  intro F0 H0 κ0 σ F H κ ρ μ vs ds ρ' S r h Q q
  cases r with
  | nil => cases h; exact ⟨rfl, q σ S fun _ _ => rfl⟩
  | cons _ _ => cases h
theorem ygs_cons {e : Expr} {es : List Expr} {is js : List Nat} {g : W → YF → Option YF} {r : List D → YF → Option YF} (h1 : YG X T K cl e is g) (h2 : YGs X T K cl es js r)
    (hs : ∀ i0, (assignEach (e :: es) (X i0).env).map (·.2) = assign e (X i0).env :: (assignEach es (X i0).env).map (·.2) := by intro _; rfl) : YGs X T K cl (e :: es) (is ++ js) (ygCons g r) := by
  obtain ⟨t, p, l⟩ := h1
  obtain ⟨u, p2, l2⟩ := h2
  refine ⟨_, fun i0 => pgs_cons (p i0) (p2 i0) (hs i0), ?_⟩
  intro F0 H0 κ0 σ F H κ ρ μ vs ds ρ' S r h Q q
  cases r with
  | nil => cases h
  | cons rv rr =>
    obtain ⟨ρ1, e1, h⟩ := Option.bind_eq_some_iff.mp h
    refine ⟨_, _, rfl, ?_⟩
    refine l F0 H0 κ0 σ F H κ ρ μ _ _ ρ1 S (.da rv) e1 _ fun σ1 S1 w1 => ?_
    refine l2 F0 H0 κ0 σ1 F H κ ρ1 μ _ _ ρ' S1 rr h _ fun σ2 S2 w2 => ?_
    exact q σ2 S2 fun vs hvs => (w2 vs fun i hi => hvs i (List.mem_append_right _ hi)).trans (w1 vs fun i hi => hvs i (List.mem_append_left _ hi))
theorem yg_tup {es : List Expr} {is : List Nat} {g : List D → YF → Option YF} {n kk : Nat} {pos : Pos} (hc : ∀ i0, (X i0).calm = true) (h : YGs X T K cl es is g) (hn : ∀ i0, (assignEach es (X i0).env).length = n := by intro _; rfl) (hst : ∀ i0, (assignEach es (X i0).env).findIdx? (·.1) = none := by intro _; rfl) (k : ∀ i0, (X i0).K = K := by intro _; rfl) : YG X T K cl (.Tuple es kk pos) is (ygTup n g) := by
  obtain ⟨t, p, l⟩ := h
  refine ⟨gTup K n t, fun i0 => by have e := k i0; subst e; exact pg_tup (hc i0) (p i0) (hn i0) (hst i0), ?_⟩
  intro F0 H0 κ0 σ F H κ ρ μ v w ρ' S r h Q q
  unfold ygTup at h
  split at h
  · split at h
    · rename_i hz
      cases r with
      | da r =>
        cases r with
        | tup hs ra =>
          refine ⟨_, _, rfl, SqT_same S.s.same hs, by rw [ra.length]; exact hz, ?_⟩
          exact l F0 H0 κ0 σ F H κ ρ μ _ _ ρ' S ra h Q q
    · cases h
  · cases h
def yAsg (a : YM W) (g : W → YF → Option YF) : YM YO := fun ρ μ => (a ρ μ).bind fun p => (g p.1 ρ).map fun ρ' => (.nx ρ', p.2)
theorem ys_asg {tg e : Expr} {is : List Nat} {a : YM W} {g : W → YF → Option YF} {pos : Pos} (ha : YD X T K cl e a) (hg : YG X T K cl tg is g) (hs : ∀ i0, swapsWithSole [tg] e pos.line (X i0).env = pure false := by intro _; rfl) (hw : ∀ i0, swappedStores [tg] e (X i0).env = pure none := by intro _; rfl) (h1 : ∀ i0, (assignEach [tg] (X i0).env).map (·.2) = [assign tg (X i0).env] := by intro _; rfl) : YS X T K cl Wx (.Assign [tg] e pos) (yAsg a g) := by
  obtain ⟨t, p, l⟩ := ha
  obtain ⟨u, p2, l2⟩ := hg
  refine ⟨_, fun i => ps_asg (p i) (p2 i) (hs i) (hw i) (h1 i), ?_⟩
  intro F0 H0 κ0 σ F H κ ρ μ o μ' De S h Q
  unfold yAsg at h
  obtain ⟨⟨w, μ1⟩, e1, h⟩ := Option.bind_eq_some_iff.mp h
  obtain ⟨ρ2, e2, h⟩ := Option.map_eq_some_iff.mp h
  cases h
  refine l F0 H0 κ0 σ F H κ ρ μ w _ S e1 _ fun v F1 H1 κ1 m1 s1 r1 => ?_
  exact l2 F0 H0 κ0 σ F1 H1 κ1 ρ _ v w ρ2 (S.move m1 s1) r1 e2 _ fun σ2 S2 _ => Q σ2 F1 H1 κ1 S2 m1
/-- self.f = e -/
def wSet (i : Nat) (w : W) (ws : List W) : Option (List W) := if i < ws.length then some (ws.set i w) else if i = ws.length then some (ws ++ [w]) else none
def ySetA (c i : Nat) (a : YM W) (o : YM W) : YM YO := fun ρ μ => (a ρ μ).bind fun p => (o ρ p.2).bind fun q => match q.1 with
  | .rf n => match q.2[n]? with
    | some (.ins c' ws) => if c' = c then (wSet i p.1 ws).map fun ws' => (.nx ρ, q.2.set n (.ins c ws')) else none
    | _ => none
  | _ => none
theorem wSet_len {i : Nat} {w : W} {ws ws' : List W} (h : wSet i w ws = some ws') : i ≤ ws.length := by
  unfold wSet at h
  split at h
  · omega
  · split at h
    · omega
    · cases h
section
variable {F H : Hp} {κ : List Addr} {μ : Sto}
theorem ins_put {n c i : Nat} {a dx : Addr} {vs : List (Str × V)} {ws ws' : List W} {f : Str} {v : V} {w : W} (C : ClsF K cl c) (hf : (cl.nm c)[i]? = some f) (S : StOk K cl F H κ μ) (s : Sub T F H) (e2 : κ[n]? = some a) (e3 : μ[n]? = some (.ins c ws)) (a1 : H a = some (.ins (cl.ad c) dx vs))
    (a2 : F a = Option.none) (a3 : vs.map (·.1) = (cl.nm c).take ws.length) (a4 : ws.length ≤ (cl.nm c).length) (a5 : RWs K F κ (vs.map (·.2)) ws) (r : RW K F κ v w) (e4 : wSet i w ws = some ws') :
    Mov T F H κ F (upd H a (.ins (cl.ad c) dx (putF f v vs))) κ ∧ StOk K cl F (upd H a (.ins (cl.ad c) dx (putF f v vs))) κ (μ.set n (.ins c ws')) := by
  have hl : vs.length = ws.length := by have := pr_len a5; rwa [List.length_map] at this
  have hi := wSet_len e4
  obtain ⟨p1, p2⟩ := put_at (v := v) C.nd (by rw [hl]; exact a3) (by rw [hl]; exact a4) hf (by rw [hl]; exact hi)
  have hin : i < (cl.nm c).length := (List.getElem?_eq_some_iff.mp hf).1
  have r5 : RWs K F κ ((putF f v vs).map (·.2)) ws' ∧ ws'.length ≤ (cl.nm c).length := by
    rw [p2, hl]
    unfold wSet at e4
    split at e4
    · rename_i hlt
      cases e4
      rw [if_pos hlt]
      exact ⟨pr_set r i a5, by rw [List.length_set]; exact a4⟩
    · split at e4
      · rename_i hn he
        cases e4
        rw [if_neg hn]
        exact ⟨pr_append a5 (.cons r .nil), by rw [List.length_append, List.length_singleton]; omega⟩
      · cases e4
  have hl2 : (putF f v vs).length = ws'.length := by have := pr_len r5.1; rwa [List.length_map] at this
  refine ⟨Mov.write s a1 a2 (List.mem_of_getElem? e2) (Tabs_upd a1 (fun _ z => by cases z) (fun _ z => by cases z)), S.write e2 ⟨dx, _, upd_same, a2, by rw [p1, hl2], r5.2, r5.1⟩⟩
end
theorem ys_setA {e o : Expr} {f : Str} {a b : YM W} {pos pos' : Pos} (c i : Nat) (C : ClsF K cl c) (hf : (cl.nm c)[i]? = some f) (ha : YD X T K cl e a) (hb : YD X T K cl o b) (hs : ∀ i0, swapsWith e (some (.Attribute o f pos')) pos.line (X i0).env = pure false := by intro _; rfl) (k : ∀ i0, (X i0).K = K := by intro _; rfl) :
    YS X T K cl Wx (.Assign [.Attribute o f pos'] e pos) (ySetA c i a b) := by
  obtain ⟨t, p, l⟩ := ha
  obtain ⟨u, p2, l2⟩ := hb
  refine ⟨sFld K u t f, fun i => by have e := k i; subst e; exact ps_fld (p2 i) (p i) (hs i), ?_⟩
  intro F0 H0 κ0 σ F H κ ρ μ oo μ' De S h Q
  unfold ySetA at h
  obtain ⟨⟨w, μ1⟩, e1, h⟩ := Option.bind_eq_some_iff.mp h
  obtain ⟨⟨x, μ2⟩, e2, h3⟩ := Option.bind_eq_some_iff.mp h
  clear h
  refine l F0 H0 κ0 σ F H κ ρ μ w _ S e1 _ fun v F1 H1 κ1 m1 s1 r1 => ?_
  have S1 := S.move m1 s1
  refine l2 F0 H0 κ0 σ F1 H1 κ1 ρ μ1 x μ2 S1 e2 _ fun y F2 H2 κ2 m2 s2 r2 => ?_
  have S2 := S1.move m2 s2
  clear e1 e2
  cases r2 with
  | da r2 => cases h3
  | rf e5 =>
    simp only at h3
    split at h3
    · rename_i c' ws e3
      split at h3
      · rename_i ec
        subst ec
        obtain ⟨ws', e4, h4⟩ := Option.map_eq_some_iff.mp h3
        cases h4
        obtain ⟨dx, vs, a1, a2, a3, a4, a5⟩ := s2.ok _ _ _ e3 e5
        have hl : vs.length = ws.length := by have := pr_len a5; rwa [List.length_map] at this
        obtain ⟨m3, s3⟩ := ins_put C hf s2 m2.s e5 e3 a1 a2 a3 a4 a5 (m2.rw r1) e4
        refine ⟨_, _, dx, vs, rfl, a1, C.cls, C.no f (List.mem_of_getElem? hf), by have := C.few; omega, ?_⟩
        exact Q σ F2 _ κ2 (S2.move m3 s3) ((m1.trans m2).trans m3)
      · cases h3
    · cases h3
/-- self.f += e, whole numbers -/
def yAugA (c i : Nat) (o : YM W) (a : YM W) : YM YO := fun ρ μ => (o ρ μ).bind fun q => match q.1 with
  | .rf n => match q.2[n]? with
    | some (.ins c' ws) => if c' = c then (a ρ q.2).bind fun p => match ws[i]?, p.1, p.2[n]? with
      | some (.da (.int x)), .da (.int y), some (.ins c2 ws2) => if c2 = c then (wSet i (.da (.int (x + y))) ws2).map fun ws' => (.nx ρ, p.2.set n (.ins c ws')) else none
      | _, _, _ => none
      else none
    | _ => none
  | _ => none
theorem ys_augA {e o : Expr} {f : Str} {a b : YM W} {pos pos' : Pos} (c i : Nat) (C : ClsF K cl c) (hf : (cl.nm c)[i]? = some f) (hb : YD X T K cl o b) (ha : YD X T K cl e a) (k : ∀ i0, (X i0).K = K := by intro _; rfl) :
    YS X T K cl Wx (.AugAssign (.Attribute o f pos') .Add e pos) (yAugA c i b a) := by
  obtain ⟨t, p, l⟩ := ha
  obtain ⟨u, p2, l2⟩ := hb
  refine ⟨sFldAug K u t rAdd f, fun i => by have e := k i; subst e; exact ps_fldaug (p2 i) (p i) in_add, ?_⟩
  intro F0 H0 κ0 σ F H κ ρ μ oo μ' De S h Q
  unfold yAugA at h
  obtain ⟨⟨x, μ1⟩, e1, h1⟩ := Option.bind_eq_some_iff.mp h
  clear h
  refine l2 F0 H0 κ0 σ F H κ ρ μ x μ1 S e1 _ fun y F1 H1 κ1 m1 s1 r1 => ?_
  have S1 := S.move m1 s1
  clear e1
  cases r1 with
  | da r1 => cases h1
  | rf e5 =>
    rename_i n a0
    simp only at h1
    split at h1
    · rename_i c' ws e3
      split at h1
      · rename_i ec
        subst ec
        obtain ⟨⟨w, μ2⟩, e2, h2⟩ := Option.bind_eq_some_iff.mp h1
        clear h1
        obtain ⟨dx, vs, a1, a2, a3, a4, a5⟩ := s1.ok _ _ _ e3 e5
        have hl : vs.length = ws.length := by have := pr_len a5; rwa [List.length_map] at this
        simp only at h2
        split at h2
        · rename_i x' y' c2 ws2 q1 q3
          split at h2
          · rename_i ec
            subst ec
            obtain ⟨ws', e4, h4⟩ := Option.map_eq_some_iff.mp h2
            cases h4
            obtain ⟨xv, e6, r6⟩ := pr_get a5 q1
            cases r6 with
            | da r6 =>
              cases r6
              rw [List.getElem?_map] at e6
              obtain ⟨fv, e7, e8⟩ := Option.map_eq_some_iff.mp e6
              refine ⟨_, _, dx, vs, _, rfl, a1, C.cls, C.no f (List.mem_of_getElem? hf), look_at C.nd (by rw [hl]; exact a3) hf e7, ?_⟩
              refine l F0 H0 κ0 σ F1 H1 κ1 ρ μ1 _ _ S1 e2 _ fun v F2 H2 κ2 m2 s2 r2 => ?_
              have S2 := S1.move m2 s2
              cases r2 with
              | da r2 =>
                cases r2
                have e5' : κ2[n]? = some a0 := by obtain ⟨r, e, _⟩ := m2.c; rw [e]; exact get_app e5
                obtain ⟨dx2, vs2, b1, b2, b3, b4, b5⟩ := s2.ok _ _ _ q3 e5'
                have hl2 : vs2.length = ws2.length := by have := pr_len b5; rwa [List.length_map] at this
                obtain ⟨m3, s3⟩ := ins_put (v := .int (x' + y')) C hf s2 m2.s e5' q3 b1 b2 b3 b4 b5 (.da (.int _)) e4
                refine ⟨x', y', e8, rfl, dx2, vs2, b1, by have := C.few; omega, ?_⟩
                exact Q σ F2 _ κ2 (S2.move m3 s3) ((m1.trans m2).trans m3)
          · cases h2
        · cases h2
      · cases h1
    · cases h1
/-- x += e, whole numbers -/
def yAug (i : Nat) (a : YM W) : YM YO := fun ρ μ => match ρ[i]? with
  | some (some (.da (.int x))) => (a ρ μ).bind fun p => match p.1 with
    | .da (.int y) => some (.nx (ρ.set i (some (.da (.int (x + y))))), p.2)
    | _ => none
  | _ => none
theorem ys_aug {i : Nat} {x : Str} {e : Expr} {a : YM W} {pos pos' : Pos} (ha : YD X T K cl e a) (hN : ∀ i0, (X i0).N.Nodup) (hi : ∀ i0, (X i0).N[i]? = some x := by intro _; rfl) (hx : ∀ i0, Loc (X i0).env.scope x := by intro _; first | exact Or.inl rfl | exact Or.inr rfl) (hf : ∀ i0, (X i0).fn x = true ∨ (X i0).env.scope.names.lookup x = some .local := by intro _; first | exact .inl rfl | exact .inr rfl) :
    YS X T K cl Wx (.AugAssign (.Name x pos') .Add e pos) (yAug i a) := by
  obtain ⟨t, p, l⟩ := ha
  refine ⟨_, fun i0 => ps_aug (hN i0) (hi i0) (hx i0) (p i0) ip_add (hf i0), ?_⟩
  intro F0 H0 κ0 σ F H κ ρ μ oo μ' De S h Q
  unfold yAug at h
  split at h
  · rename_i x' e1
    obtain ⟨⟨w, μ1⟩, e2, h2⟩ := Option.bind_eq_some_iff.mp h
    clear h
    obtain ⟨v, e3, r3⟩ := S.sl i _ e1
    cases r3 with
    | da r3 =>
      cases r3
      refine ⟨_, e3, l F0 H0 κ0 σ F H κ ρ μ w μ1 S e2 _ fun y F1 H1 κ1 m1 s1 r1 => ?_⟩
      cases r1 with
      | rf e4 => cases h2
      | da r1 =>
        simp only at h2
        split at h2
        · rename_i y' e5
          cases e5
          cases h2
          cases r1
          exact ⟨x', y', rfl, rfl, Q _ F1 H1 κ1 ((S.move m1 s1).set (.da (.int _)) (List.getElem?_eq_some_iff.mp e1).1) m1⟩
        · cases h2
  · cases h
end
end Md

/-! Md4: what is walked; for, while, comprehensions. -/
namespace Md
open PySem PySem.Spec PyProof.Rows L2 Pd
/-! ### the same data -/
mutual
def eqD : D → D → Bool
  | .none, .none => true
  | .bool a, .bool b => a == b
  | .int a, .int b => a == b
  | .str a, .str b => a == b
  | .list a, .list b => eqDs a b
  | .tuple a, .tuple b => eqDs a b
  | .dict a, .dict b => eqDk a b
  | _, _ => false
def eqDs : List D → List D → Bool
  | [], [] => true
  | a :: r, b :: s => eqD a b && eqDs r s
  | _, _ => false
def eqDk : List (D × D) → List (D × D) → Bool
  | [], [] => true
  | (a, b) :: r, (c, d) :: s => eqD a c && eqD b d && eqDk r s
  | _, _ => false
end
mutual
theorem eqD_of : ∀ {a b : D}, eqD a b = true → a = b
  | .none, b, h => by cases b <;> simp [eqD] at h ⊢
  | .bool a, b, h => by cases b <;> simp [eqD] at h ⊢; exact h
  | .int a, b, h => by cases b <;> simp [eqD] at h ⊢; exact h
  | .str a, b, h => by cases b <;> simp [eqD] at h ⊢; exact h
  | .list a, b, h => by
    cases b <;> simp only [eqD] at h <;> try (cases h; done)
    rw [eqDs_of h]
  | .tuple a, b, h => by
    cases b <;> simp only [eqD] at h <;> try (cases h; done)
    rw [eqDs_of h]
  | .dict a, b, h => by
    cases b <;> simp only [eqD] at h <;> try (cases h; done)
    rw [eqDk_of h]
theorem eqDs_of : ∀ {a b : List D}, eqDs a b = true → a = b
  | [], [], _ => rfl
  | [], _ :: _, h => by simp [eqDs] at h
  | _ :: _, [], h => by simp [eqDs] at h
  | a :: r, b :: s, h => by
    rw [eqDs, Bool.and_eq_true] at h
    rw [eqD_of h.1, eqDs_of h.2]
theorem eqDk_of : ∀ {a b : List (D × D)}, eqDk a b = true → a = b
  | [], [], _ => rfl
  | [], _ :: _, h => by simp [eqDk] at h
  | _ :: _, [], h => by simp [eqDk] at h
  | (a, a') :: r, (b, b') :: s, h => by
    rw [eqDk, Bool.and_eq_true, Bool.and_eq_true] at h
    rw [eqD_of h.1.1, eqD_of h.1.2, eqDk_of h.2]
end
mutual
theorem eqD_self : ∀ a : D, eqD a a = true
  | .none => rfl
  | .bool a => by simp [eqD]
  | .int a => by simp [eqD]
  | .str a => by simp [eqD]
  | .list a => by rw [eqD]; exact eqDs_self a
  | .tuple a => by rw [eqD]; exact eqDs_self a
  | .dict a => by rw [eqD]; exact eqDk_self a
theorem eqDs_self : ∀ a : List D, eqDs a a = true
  | [] => rfl
  | a :: r => by rw [eqDs, eqD_self a, eqDs_self r]; rfl
theorem eqDk_self : ∀ a : List (D × D), eqDk a a = true
  | [] => rfl
  | (a, b) :: r => by rw [eqDk, eqD_self a, eqD_self b, eqDk_self r]; rfl
end
def eqW : W → W → Bool
  | .da a, .da b => eqD a b
  | .rf n, .rf m => n == m
  | _, _ => false
def eqWs : List W → List W → Bool
  | [], [] => true
  | a :: r, b :: s => eqW a b && eqWs r s
  | _, _ => false
theorem eqW_of {a b : W} (h : eqW a b = true) : a = b := by
  cases a <;> cases b <;> simp only [eqW] at h <;> try (cases h; done)
  · rw [eqD_of h]
  · rw [eq_of_beq h]
theorem eqWs_of : ∀ {a b : List W}, eqWs a b = true → a = b
  | [], [], _ => rfl
  | [], _ :: _, h => by simp [eqWs] at h
  | _ :: _, [], h => by simp [eqWs] at h
  | a :: r, b :: s, h => by
    rw [eqWs, Bool.and_eq_true] at h
    rw [eqW_of h.1, eqWs_of h.2]
theorem eqW_self (a : W) : eqW a a = true := by cases a <;> simp [eqW, eqD_self]
theorem eqWs_self : ∀ a : List W, eqWs a a = true
  | [] => rfl
  | a :: r => by rw [eqWs, eqW_self a, eqWs_self r]; rfl
/-! ### what is walked -/
structure ItY (T : List (Addr × Str)) (K : PySem.W.Frag) (cl : Cf) (J : It) (F : Hp) (κ : List Addr) (gd : Sto → Bool) (ws : List W) : Prop where
  go : ∀ i F' H' κ' μ', Same F F' → (∃ r, κ' = κ ++ r) → Sub T F' H' → StOk K cl F' H' κ' μ' → gd μ' = true → i < ws.length → J.go i H'
  stop : ∀ i F' H' κ' μ', Same F F' → (∃ r, κ' = κ ++ r) → Sub T F' H' → StOk K cl F' H' κ' μ' → gd μ' = true → ws.length ≤ i → J.stop i H'
  yld : ∀ i w F1 H1 κ1 μ1 x H2, Same F F1 → (∃ r, κ1 = κ ++ r) → Sub T F1 H1 → StOk K cl F1 H1 κ1 μ1 → gd μ1 = true → ws[i]? = some w → J.yld i H1 x H2 → ∃ F2, Grow T F1 H1 F2 H2 ∧ RW K F2 κ1 x w
abbrev YIt := List W × (Sto → Bool)
def gdT : Sto → Bool := fun _ => true
def gdL (n : Nat) (ws : List W) : Sto → Bool := fun μ => match μ[n]? with
  | some (.lst vs) => eqWs vs ws
  | _ => false
def IY (T : List (Addr × Str)) (K : PySem.W.Frag) (cl : Cf) (wi : TI) (m : YM YIt) : Prop := ∀ (F0 H0 : Hp) (κ0 : List Addr) (σ : St) (F H : Hp) (κ : List Addr) (ρ : YF) (μ : Sto) (it : YIt) (μ' : Sto), MS T K cl F0 H0 κ0 σ F H κ ρ μ → m ρ μ = some (it, μ') →
  ∀ R : It → Hp → Prop, (∀ J F' H' κ', Mov T F H κ F' H' κ' → StOk K cl F' H' κ' μ' → it.2 μ' = true → ItY T K cl J F' κ' it.2 it.1 → R J H') → wi σ H R
def YI {ι : Type} (X : ι → Cx) (T : List (Addr × Str)) (K : PySem.W.Frag) (cl : Cf) (tg iter : Expr) (m : YM YIt) : Prop := ∃ wi, (∀ i, PI (X i) tg iter wi) ∧ IY T K cl wi m
def yItP (m : Pd.M (List D)) : YM YIt := fun ρ μ => (m (toP ρ)).map fun ds => ((ds.map .da, gdT), μ)
def yItL (a : YM W) : YM YIt := fun ρ μ => (a ρ μ).bind fun p => match p.1 with
  | .da (.list ds) => some ((ds.map .da, gdT), p.2)
  | .rf n => match p.2[n]? with
    | some (.lst ws) => some ((ws, gdL n ws), p.2)
    | _ => none
  | _ => none
def enumD : Nat → List D → List D
  | _, [] => []
  | i, d :: r => .tuple [.int i, d] :: enumD (i + 1) r
def yItE (a : YM W) : YM YIt := fun ρ μ => (a ρ μ).bind fun p => match p.1 with
  | .da (.list ds) => some (((enumD 0 ds).map .da, gdT), p.2)
  | _ => none
section
variable {ι : Type} {T : List (Addr × Str)} {K : PySem.W.Frag} {cl : Cf} {Wx : WN} {X : ι → Cx} {F : Hp} {κ : List Addr}
theorem itY_data {J : It} {xs : List D} (h : ItOk T K J F xs) : ItY T K cl J F κ gdT (xs.map .da) := by
  refine ⟨fun i F' H' κ' μ' s _ u _ _ hi => h.go i H' (s.trans u.same) (by simpa using hi), fun i F' H' κ' μ' s _ u _ _ hi => h.stop i H' (s.trans u.same) (by simpa using hi), fun i w F1 H1 κ1 μ1 x H2 s _ u _ _ hw hy => ?_⟩
  rw [List.getElem?_map] at hw
  obtain ⟨d, e1, e2⟩ := Option.map_eq_some_iff.mp hw
  subst e2
  obtain ⟨F2, g, r⟩ := h.yld i d F1 H1 x H2 s u e1 hy
  exact ⟨F2, g, .da r⟩
theorem yi_pure {tg iter : Expr} {m : Pd.M (List D)} (h : XI X T K tg iter m) : YI X T K cl tg iter (yItP m) := by
  obtain ⟨wi, p, l⟩ := h
  refine ⟨wi, p, ?_⟩
  intro F0 H0 κ0 σ F H κ ρ μ it μ' S h R q
  obtain ⟨d, e1, h⟩ := Option.map_eq_some_iff.mp h
  cases h
  exact l F H σ F H _ d S.pure e1 R fun J F' H' g I => q J F' H' κ (.of g) (S.st.grow S.s g) rfl (itY_data I)
theorem itOk_list {a : Addr} {vs : List V} {ds : List D} (hs : SqL K F a vs) (r : RpAll K F vs ds) : ItOk T K (Itl K a) F ds := by
  refine ⟨fun i H' s hi => ?_, fun i H' s hi => ⟨vs, s.seq hs, by rw [r.length]; exact hi⟩, fun i d F2 H2 x H3 s1 s2 hd hy => ?_⟩
  · obtain ⟨x, hx⟩ := some_at (xs := vs) (i := i) (by rw [r.length]; exact hi)
    exact ⟨vs, x, s.seq hs, hx⟩
  · obtain ⟨e, hy⟩ := hy
    subst e
    exact ⟨F2, Grow.refl s2, (rp_at r (hy vs (s2.same.seq (s1.seq hs))) hd).mono s1⟩
theorem yi_list {tg e : Expr} {a : YM W} (ha : YD X T K cl e a) (k : ∀ i0, (X i0).K = K := by intro _; rfl) : YI X T K cl tg e (yItL a) := by
  obtain ⟨t, p, l⟩ := ha
  refine ⟨iList K t, fun i0 => by have e := k i0; subst e; exact pi_list (p i0), ?_⟩
  intro F0 H0 κ0 σ F H κ ρ μ it μ' S h R q
  unfold yItL at h
  obtain ⟨⟨w, μ1⟩, e1, h1⟩ := Option.bind_eq_some_iff.mp h
  clear h
  refine l F0 H0 κ0 σ F H κ ρ μ w μ1 S e1 _ fun v F1 H1 κ1 m1 s1 r1 => ?_
  clear e1
  cases r1 with
  | da r1 =>
    cases r1 with
    | lst hs r => cases h1; exact ⟨_, rfl, ⟨_, m1.s.same.seq hs⟩, q _ F1 H1 κ1 m1 s1 rfl (itY_data (itOk_list hs r))⟩
    | _ => cases h1
  | rf e2 =>
    rename_i n a0
    simp only at h1
    split at h1
    · rename_i ws e3
      cases h1
      obtain ⟨vs, a1, a2, a3⟩ := s1.ok _ _ _ e3 e2
      have gself : gdL n ws μ' = true := by unfold gdL; rw [e3]; exact eqWs_self ws
      have key : ∀ {F' H' : Hp} {κ' : List Addr} {μ2 : Sto}, (∃ r, κ' = κ1 ++ r) → StOk K cl F' H' κ' μ2 → gdL n ws μ2 = true → ∃ vs', H' a0 = some (.lst vs') ∧ RWs K F' κ' vs' ws := by
        intro F' H' κ' μ2 hr S2 hg
        obtain ⟨r, er⟩ := hr
        unfold gdL at hg
        split at hg
        · rename_i vs2 e4
          have := eqWs_of hg
          subst this
          obtain ⟨vs', b1, _, b3⟩ := S2.ok n _ a0 e4 (by rw [er]; exact get_app e2)
          exact ⟨vs', b1, b3⟩
        · cases hg
      refine ⟨_, rfl, ⟨vs, SqL.of a1⟩, q _ F1 H1 κ1 m1 s1 gself ⟨fun i F' H' κ' μ2 s hr u S2 hg hi => ?_, fun i F' H' κ' μ2 s hr u S2 hg hi => ?_, fun i w F2 H2 κ2 μ2 x H3 s hr u S2 hg hw hy => ?_⟩⟩
      · obtain ⟨vs', b1, b2⟩ := key hr S2 hg
        obtain ⟨x, hx⟩ := some_at (xs := vs') (i := i) (by rw [pr_len b2]; exact hi)
        exact ⟨vs', x, SqL.of b1, hx⟩
      · obtain ⟨vs', b1, b2⟩ := key hr S2 hg
        exact ⟨vs', SqL.of b1, by rw [pr_len b2]; exact hi⟩
      · obtain ⟨vs', b1, b2⟩ := key hr S2 hg
        obtain ⟨e, hy⟩ := hy
        subst e
        obtain ⟨x', hx, r⟩ := pr_get b2 hw
        have := hy vs' (SqL.of b1)
        rw [hx] at this
        cases this
        exact ⟨F2, Grow.refl u, r⟩
    · cases h1
/-! ### for -/
def yForL (gd : Sto → Bool) (g : W → YF → Option YF) (b : YM YO) : List W → YM YO
  | [], ρ, μ => some (.nx ρ, μ)
  | w :: ws, ρ, μ => (g w ρ).bind fun ρ1 => (b ρ1 μ).bind fun p => match p.1 with
    | .nx ρ2 => if gd p.2 = true then yForL gd g b ws ρ2 p.2 else none
    | .ct ρ2 => if gd p.2 = true then yForL gd g b ws ρ2 p.2 else none
    | .bk ρ2 => some (.nx ρ2, p.2)
    | .rt w => some (.rt w, p.2)
    | .ex n ρ2 => some (.ex n ρ2, p.2)
def yFor (mi : YM YIt) (g : W → YF → Option YF) (b : YM YO) : YM YO := fun ρ μ => (mi ρ μ).bind fun p => yForL p.1.2 g b p.1.1 ρ p.2
theorem ys_for {tgt iter : Expr} {body : List Stmt} {mi : YM YIt} {is : List Nat} {g : W → YF → Option YF} {mb : YM YO} {pos : Pos} (hi : YI X T K cl tgt iter mi) (hg : YG X T K cl tgt is g) (hb : YSs X T K cl Wx body mb) (hp : ∀ i0, PassesOwn (model (X i0).prog (X i0).w) (X i0).A (X i0).env (X i0).xe)
    (hc : ∀ i0, (X i0).calm = true := by intro _; rfl) (hs : ∀ i0, ∀ x, foldedSetIterable iter (X i0).env x = pure x := by intro _ _; rfl) : YS X T K cl Wx (.For tgt iter body [] pos) (yFor mi g mb) := by
  obtain ⟨wi, p1, l1⟩ := hi
  obtain ⟨tg, p2, l2⟩ := hg
  obtain ⟨tb, p3, l3⟩ := hb
  refine ⟨_, fun i0 => ps_for (hp i0) (hc i0) (p1 i0) (p2 i0) (p3 i0) (hs i0), ?_⟩
  intro F0 H0 κ0 σ F H κ ρ μ o μ' De S h Q
  unfold yFor at h
  obtain ⟨⟨⟨ws, gd⟩, μ1⟩, e1, h1⟩ := Option.bind_eq_some_iff.mp h
  clear h
  refine l1 F0 H0 κ0 σ F H κ ρ μ _ μ1 S e1 _ fun J F1 H1 κ1 m1 s1 g1 J1 => ?_
  refine ⟨fun i m σ2 H2 => m = ws.length - i ∧ i ≤ ws.length ∧ ∃ F2 κ2 ρ2 μ2, MS T K cl F0 H0 κ0 σ2 F2 H2 κ2 ρ2 μ2 ∧ Mov T F1 H1 κ1 F2 H2 κ2 ∧ gd μ2 = true ∧ yForL gd g mb (ws.drop i) ρ2 μ2 = some (o, μ'), ⟨ws.length, by simp, Nat.zero_le _, F1, κ1, ρ, μ1, S.move m1 s1, Mov.refl m1.s, g1, h1⟩, ?_⟩
  rintro i m σ2 H2 ⟨rfl, hil, F2, κ2, ρ2, μ2, S2, m2, g2, h2⟩
  have hr2 : ∃ r, κ2 = κ1 ++ r := let ⟨r, e, _⟩ := m2.c; ⟨r, e⟩
  by_cases hlt : i < ws.length
  · obtain ⟨d, hd⟩ := some_at hlt
    rw [drop_at hd] at h2
    obtain ⟨ρ3, e2, h3⟩ := Option.bind_eq_some_iff.mp (show (g d ρ2).bind _ = some (o, μ') from h2)
    obtain ⟨⟨o3, μ3⟩, e3, h4⟩ := Option.bind_eq_some_iff.mp h3
    clear h2 h3
    refine .inr ⟨J1.go i F2 H2 κ2 μ2 m2.f hr2 S2.s S2.st g2 hlt, fun σ3 H3 => ∃ F3 κ3 ρ3 μ3, MS T K cl F0 H0 κ0 σ3 F3 H3 κ3 ρ3 μ3 ∧ Mov T F1 H1 κ1 F3 H3 κ3 ∧ gd μ3 = true ∧ yForL gd g mb (ws.drop (i + 1)) ρ3 μ3 = some (o, μ'), ?_, ?_⟩
    · rintro σ3 H3 ⟨F3, κ3, ρ3, μ3, a1, a2, a3, a4⟩
      exact ⟨ws.length - (i + 1), by omega, rfl, hlt, F3, κ3, ρ3, μ3, a1, a2, a3, a4⟩
    · intro x H3 hy
      obtain ⟨F3, g3, rx⟩ := J1.yld i d F2 H2 κ2 μ2 x H3 m2.f hr2 S2.s S2.st g2 hd hy
      have m3 : Mov T F2 H2 κ2 F3 H3 κ2 := .of g3
      have S3 := S2.move m3 (S2.st.grow S2.s g3)
      refine l2 F0 H0 κ0 σ2 F3 H3 κ2 ρ2 μ2 x d ρ3 S3 rx e2 _ fun σ4 S4 _ => ?_
      refine l3 F0 H0 κ0 σ4 F3 H3 κ2 ρ3 μ2 o3 μ3 _ S4 e3 ?_
      have m13 := m2.trans m3
      cases o3 with
      | nx ρ5 =>
        intro σ5 F5 H5 κ5 S5 s5
        simp only at h4
        split at h4
        · rename_i hg; exact ⟨F5, κ5, ρ5, μ3, S5, m13.trans s5, hg, h4⟩
        · cases h4
      | ct ρ5 =>
        intro σ5 F5 H5 κ5 S5 s5
        simp only at h4
        split at h4
        · rename_i hg; exact ⟨F5, κ5, ρ5, μ3, S5, m13.trans s5, hg, h4⟩
        · cases h4
      | bk ρ5 => cases h4; exact fun σ5 F5 H5 κ5 S5 s5 => Q σ5 F5 H5 κ5 S5 ((m1.trans m13).trans s5)
      | rt d5 => cases h4; exact fun v F5 H5 κ5 g5 r5 => Q v F5 H5 κ5 g5 r5
      | ex n5 ρ5 => cases h4; exact fun σ5 F5 H5 κ5 S5 s5 => Q σ5 F5 H5 κ5 S5 ((m1.trans m13).trans s5)
  · have e : i = ws.length := by omega
    subst e
    rw [List.drop_length] at h2
    cases h2
    exact .inl ⟨J1.stop _ F2 H2 κ2 _ m2.f hr2 S2.s S2.st g2 (Nat.le_refl _), Q σ2 F2 H2 κ2 S2 (m1.trans m2)⟩
/-! ### while -/
def yWhile (c : YM Bool) (b : YM YO) : Nat → YM YO
  | 0, _, _ => none
  | n + 1, ρ, μ => (c ρ μ).bind fun p => if p.1 = true then (b ρ p.2).bind fun q => match q.1 with
      | .nx ρ2 => yWhile c b n ρ2 q.2
      | .ct ρ2 => yWhile c b n ρ2 q.2
      | .bk ρ2 => some (.nx ρ2, q.2)
      | .rt w => some (.rt w, q.2)
      | .ex m ρ2 => some (.ex m ρ2, q.2)
    else some (.nx ρ, p.2)
theorem ys_while {c : Expr} {body : List Stmt} {mc : YM Bool} {mb : YM YO} {pos : Pos} (n : Nat) (hc : YT X T K cl c mc) (hb : YSs X T K cl Wx body mb) (hp : ∀ i0, PassesOwn (model (X i0).prog (X i0).w) (X i0).A (X i0).env (X i0).xe) : YS X T K cl Wx (.While c body [] pos) (yWhile mc mb n) := by
  obtain ⟨tc, p1, l1⟩ := hc
  obtain ⟨tb, p2, l2⟩ := hb
  refine ⟨_, fun i0 => ps_while (hp i0) (p1 i0) (p2 i0), ?_⟩
  intro F0 H0 κ0 σ F H κ ρ μ o μ' De S h Q
  refine ⟨fun m σ2 H2 => ∃ F2 κ2 ρ2 μ2, MS T K cl F0 H0 κ0 σ2 F2 H2 κ2 ρ2 μ2 ∧ Mov T F H κ F2 H2 κ2 ∧ yWhile mc mb m ρ2 μ2 = some (o, μ'), ⟨n, F, κ, ρ, μ, S, Mov.refl S.s, h⟩, ?_⟩
  rintro m σ2 H2 ⟨F2, κ2, ρ2, μ2, S2, m2, h2⟩
  cases m with
  | zero => cases h2
  | succ m =>
    unfold yWhile at h2
    obtain ⟨⟨x, μ3⟩, e1, h3⟩ := Option.bind_eq_some_iff.mp h2
    clear h2
    refine l1 F0 H0 κ0 σ2 F2 H2 κ2 ρ2 μ2 x μ3 S2 e1 _ fun F3 H3 κ3 m3 s3 => ?_
    have S3 := S2.move m3 s3
    cases x with
    | false =>
      simp only [Bool.false_eq_true, if_false] at h3 ⊢
      cases h3
      exact Q σ2 F3 H3 κ3 S3 (m2.trans m3)
    | true =>
      simp only [if_true] at h3 ⊢
      obtain ⟨⟨o4, μ4⟩, e4, h4⟩ := Option.bind_eq_some_iff.mp h3
      clear h3
      refine ⟨fun σ' H' => ∃ F2 κ2 ρ2 μ2, MS T K cl F0 H0 κ0 σ' F2 H' κ2 ρ2 μ2 ∧ Mov T F H κ F2 H' κ2 ∧ yWhile mc mb m ρ2 μ2 = some (o, μ'), fun σ' H' h => ⟨m, Nat.lt_succ_self _, h⟩, ?_⟩
      refine l2 F0 H0 κ0 σ2 F3 H3 κ3 ρ2 μ3 o4 μ4 _ S3 e4 ?_
      have m23 := m2.trans m3
      cases o4 with
      | nx ρ5 => exact fun σ5 F5 H5 κ5 S5 s5 => ⟨F5, κ5, ρ5, μ4, S5, m23.trans s5, h4⟩
      | ct ρ5 => exact fun σ5 F5 H5 κ5 S5 s5 => ⟨F5, κ5, ρ5, μ4, S5, m23.trans s5, h4⟩
      | bk ρ5 => cases h4; exact fun σ5 F5 H5 κ5 S5 s5 => Q σ5 F5 H5 κ5 S5 (m23.trans s5)
      | rt d5 => cases h4; exact fun v F5 H5 κ5 g5 r5 => Q v F5 H5 κ5 g5 r5
      | ex n5 ρ5 => cases h4; exact fun σ5 F5 H5 κ5 S5 s5 => Q σ5 F5 H5 κ5 S5 (m23.trans s5)
/-! ### comprehensions -/
def wipeY (ρ : YF) : List Nat → YF
  | [] => ρ
  | v :: vs => (wipeY ρ vs).set v none
theorem MS.unset {F0 H0 F H : Hp} {κ0 κ : List Addr} {σ : St} {ρ : YF} {μ : Sto} {i : Nat} {o : Option V} (S : MS T K cl F0 H0 κ0 σ F H κ ρ μ) : MS T K cl F0 H0 κ0 (σ.set i o) F H κ (ρ.set i none) μ := by
  refine ⟨S.g, S.st, by rw [List.length_set, List.length_set]; exact S.ln, fun j w h => ?_⟩
  by_cases hj : i = j
  · subst hj
    by_cases hl : i < ρ.length
    · rw [List.getElem?_set_self hl] at h; cases h
    · rw [List.getElem?_eq_none (by rw [List.length_set]; omega)] at h; cases h
  · rw [List.getElem?_set_ne hj] at h ⊢
    exact S.sl j w h
theorem MS.wipe {F0 H0 F H : Hp} {κ0 κ : List Addr} {σ : St} {ρ : YF} {μ : Sto} (S : MS T K cl F0 H0 κ0 σ F H κ ρ μ) : ∀ vs : List Nat, MS T K cl F0 H0 κ0 (L2.wipe σ vs) F H κ (wipeY ρ vs) μ
  | [] => S
  | _ :: vs => (S.wipe vs).unset
def YTs {ι : Type} (X : ι → Cx) (T : List (Addr × Str)) (K : PySem.W.Frag) (cl : Cf) (ifs : List Expr) (m : YM Bool) : Prop := ∃ t, (∀ i, PTs (X i) ifs t) ∧ TY T K cl t m
def yYes : YM Bool := fun _ μ => some (true, μ)
theorem yts_nil : YTs X T K cl [] yYes := ⟨_, fun i0 => pts_nil, by
  intro F0 H0 κ0 σ F H κ ρ μ b μ' S h Q q
  cases h
  exact q F H κ (Mov.refl S.s) S.st⟩
theorem yts_one {e : Expr} {m : YM Bool} (h : YT X T K cl e m) : YTs X T K cl [e] m := by
  obtain ⟨t, p, l⟩ := h
  exact ⟨_, fun i0 => pts_one (p i0), l⟩
def yComp (gd : Sto → Bool) (turn : W → Sto → Option (Option W × Sto)) : List W → Sto → Option (List W × Sto)
  | [], μ => some ([], μ)
  | x :: xs, μ => (turn x μ).bind fun p => if gd p.2 = true then (yComp gd turn xs p.2).bind fun q => some (p.1.toList ++ q.1, q.2) else none
def yTurn (g : W → YF → Option YF) (mt : YM Bool) (me : YM W) (ρ : YF) (x : W) (μ : Sto) : Option (Option W × Sto) := (g x ρ).bind fun ρ2 => (mt ρ2 μ).bind fun p => if p.1 = true then (me ρ2 p.2).map fun q => (some q.1, q.2) else some (none, p.2)
def yLc (mi : YM YIt) (vs : List Nat) (g : W → YF → Option YF) (mt : YM Bool) (me : YM W) : YM (List W) := fun ρ μ => (mi ρ μ).bind fun p => if p.1.1.length ≤ sizeLine then yComp p.1.2 (yTurn g mt me (wipeY ρ vs)) p.1.1 p.2 else none
def FY (T : List (Addr × Str)) (K : PySem.W.Frag) (cl : Cf) (te : TE) (m : YM (List W)) : Prop := ∀ (F0 H0 : Hp) (κ0 : List Addr) (σ : St) (F H : Hp) (κ : List Addr) (ρ : YF) (μ : Sto) (ws : List W) (μ' : Sto), MS T K cl F0 H0 κ0 σ F H κ ρ μ → m ρ μ = some (ws, μ') →
  ∀ Q : VK, (∀ a vs F' H' κ', Mov T F H κ F' H' κ' → StOk K cl F' H' κ' μ' → H' a = some (.lst vs) → F' a = Option.none → a ∉ κ' → Fre (H a) → RWs K F' κ' vs ws → Q (.ref a) H') → te σ H Q
def YFd {ι : Type} (X : ι → Cx) (T : List (Addr × Str)) (K : PySem.W.Frag) (cl : Cf) (e : Expr) (m : YM (List W)) : Prop := ∃ t, (∀ i, PE (X i) e t) ∧ FY T K cl t m
/-- it stays, as data -/
def yL (m : YM (List W)) : YM W := fun ρ μ => (m ρ μ).bind fun p => (allDa p.1).map fun ds => (.da (.list ds), p.2)
/-- it is a cell -/
def yLC (m : YM (List W)) : YM W := fun ρ μ => (m ρ μ).map fun p => (.rf p.2.length, p.2 ++ [.lst p.1])
theorem YFd.yd {e : Expr} {m : YM (List W)} (h : YFd X T K cl e m) : YD X T K cl e (yL m) := by
  obtain ⟨t, p, l⟩ := h
  refine ⟨t, p, ?_⟩
  intro F0 H0 κ0 σ F H κ ρ μ w μ' S h Q q
  unfold yL at h
  obtain ⟨⟨ws, μ1⟩, e1, h1⟩ := Option.bind_eq_some_iff.mp h
  obtain ⟨ds, e2, h2⟩ := Option.map_eq_some_iff.mp h1
  cases h2
  refine l F0 H0 κ0 σ F H κ ρ μ ws _ S e1 _ fun a vs F1 H1 κ1 m1 s1 ha hf hk hn r => ?_
  obtain ⟨m2, s2, e⟩ := m1.frz s1 ha hf hk hn
  exact q _ _ H1 κ1 m2 s2 (.da (.lst (SqL.of upd_same) ((allDa_rp r e2).mono e)))
theorem YFd.ydC {e : Expr} {m : YM (List W)} (h : YFd X T K cl e m) : YD X T K cl e (yLC m) := by
  obtain ⟨t, p, l⟩ := h
  refine ⟨t, p, ?_⟩
  intro F0 H0 κ0 σ F H κ ρ μ w μ' S h Q q
  unfold yLC at h
  obtain ⟨⟨ws, μ1⟩, e1, h1⟩ := Option.map_eq_some_iff.mp h
  cases h1
  refine l F0 H0 κ0 σ F H κ ρ μ ws _ S e1 _ fun a vs F1 H1 κ1 m1 s1 ha hf hk hn r => ?_
  obtain ⟨m2, s2, r2⟩ := m1.cell s1 S.st S.s ha hf hk hn r
  exact q _ _ H1 _ m2 s2 r2
theorem yComp_len {gd : Sto → Bool} {turn : W → Sto → Option (Option W × Sto)} : ∀ {xs : List W} {μ μ' : Sto} {r : List W}, yComp gd turn xs μ = some (r, μ') → r.length ≤ xs.length
  | [], _, _, _, h => by cases h; exact Nat.le_refl _
  | x :: xs, μ, μ', r, h => by
    obtain ⟨⟨o, μ1⟩, e1, h1⟩ := Option.bind_eq_some_iff.mp (show (turn x μ).bind _ = some (r, μ') from h)
    simp only at h1
    split at h1
    · obtain ⟨⟨r1, μ2⟩, e2, h2⟩ := Option.bind_eq_some_iff.mp h1
      cases h2
      have h8 := yComp_len e2
      have h9 : o.toList.length ≤ 1 := by cases o <;> simp
      simp only [List.length_append, List.length_cons]
      omega
    · cases h1
theorem fy_lc {wi : TI} {mi : YM YIt} {tg : TG} {is vs : List Nat} {g : W → YF → Option YF} {tt : TT} {mt : YM Bool} {te : TE} {me : YM W} (hi : IY T K cl wi mi) (hg : GY T K cl tg is g) (ht : TY T K cl tt mt) (he : EY T K cl te me) (hv : ∀ i ∈ is, i ∈ vs) : FY T K cl (tLc wi tg tt te vs) (yLc mi vs g mt me) := by
  intro F0 H0 κ0 σ F H κ ρ μ ws μ' S h Q q
  unfold yLc at h
  obtain ⟨⟨⟨xs, gd⟩, μ1⟩, e1, h1⟩ := Option.bind_eq_some_iff.mp h
  clear h
  refine hi F0 H0 κ0 σ F H κ ρ μ _ μ1 S e1 _ fun J F1 H1 κ1 m1 s1 g1 J1 => ?_
  intro Dd hD
  have S1 := S.move m1 s1
  simp only at h1
  split at h1
  · rename_i hz
    have hD1 : Dd ∉ κ1 := fun z => by
      obtain ⟨o, e, _⟩ := s1.mem m1.s z
      rw [hD] at e; cases e
    have gm : Grow T F1 H1 F1 (upd H1 Dd (.lst [])) := Grow.mine m1.s hD
    refine ⟨fun i m H2 => m = xs.length - i ∧ i ≤ xs.length ∧ ∃ F2 κ2 μ2 us acc rest, Mov T F1 H1 κ1 F2 H2 κ2 ∧ StOk K cl F2 H2 κ2 μ2 ∧ gd μ2 = true ∧ H2 Dd = some (.lst us) ∧ F2 Dd = Option.none ∧ Dd ∉ κ2 ∧ RWs K F2 κ2 us acc ∧ acc.length ≤ i ∧
        yComp gd (yTurn g mt me (wipeY ρ vs)) (xs.drop i) μ2 = some (rest, μ') ∧ ws = acc ++ rest,
      ⟨xs.length, by simp, Nat.zero_le _, F1, κ1, μ1, [], [], ws, .of gm, s1.put hD1, g1, upd_same, m1.s.same.free hD, hD1, .nil, Nat.zero_le _, by rw [List.drop_zero]; exact h1, rfl⟩, ?_⟩
    rintro i m H2 ⟨rfl, hil, F2, κ2, μ2, us, acc, rest, m2, s2, g2, hDl, hDf, hDk, hr, hal, hc, hro⟩
    have hr2 : ∃ r, κ2 = κ1 ++ r := let ⟨r, e, _⟩ := m2.c; ⟨r, e⟩
    by_cases hlt : i < xs.length
    · obtain ⟨d, hd⟩ := some_at hlt
      rw [drop_at hd] at hc
      obtain ⟨⟨o3, μ3⟩, e3, h4⟩ := Option.bind_eq_some_iff.mp (show (yTurn g mt me (wipeY ρ vs) d μ2).bind _ = some (rest, μ') from hc)
      clear hc
      simp only at h4
      split at h4
      · rename_i hg3
        obtain ⟨⟨r1, μ5⟩, e5, h5⟩ := Option.bind_eq_some_iff.mp h4
        cases h5
        refine .inr ⟨J1.go i F2 H2 κ2 μ2 m2.f hr2 m2.s s2 g2 hlt, fun H3 => ∃ F3 κ3 us' acc', Mov T F1 H1 κ1 F3 H3 κ3 ∧ StOk K cl F3 H3 κ3 μ3 ∧ H3 Dd = some (.lst us') ∧ F3 Dd = Option.none ∧ Dd ∉ κ3 ∧ RWs K F3 κ3 us' acc' ∧ acc'.length ≤ i + 1 ∧ ws = acc' ++ r1, ?_, ?_⟩
        · rintro H3 ⟨F3, κ3, us', acc', a1, a2, a3, a4, a5, a6, a7, a8⟩
          exact ⟨xs.length - (i + 1), by omega, rfl, hlt, F3, κ3, μ3, us', acc', r1, a1, a2, hg3, a3, a4, a5, a6, a7, e5, a8⟩
        · intro x H3 hy
          obtain ⟨F3, g3, rx⟩ := J1.yld i d F2 H2 κ2 μ2 x H3 m2.f hr2 m2.s s2 g2 hd hy
          have m3 : Mov T F2 H2 κ2 F3 H3 κ2 := .of g3
          have s3 := s2.grow m2.s g3
          have m13 := m2.trans m3
          have S3 : MS T K cl F0 H0 κ0 (L2.wipe σ vs) F3 H3 κ2 (wipeY ρ vs) μ2 := (((S1.wipe vs).move m13 s3))
          unfold yTurn at e3
          obtain ⟨ρ2, e2, hfo⟩ := Option.bind_eq_some_iff.mp e3
          obtain ⟨⟨b, μ6⟩, e6, hfo2⟩ := Option.bind_eq_some_iff.mp hfo
          clear e3 hfo
          refine hg F0 H0 κ0 _ F3 H3 κ2 _ μ2 x d ρ2 S3 rx e2 _ fun σ4 S4 w4 => ?_
          refine ⟨by rw [w4 vs hv]; exact wipe_wipeX, ?_⟩
          obtain ⟨d1, d2, d3⟩ := m3.own hDl hDf hDk
          refine ht F0 H0 κ0 σ4 F3 H3 κ2 ρ2 μ2 b μ6 S4 e6 _ fun F5 H5 κ5 m5 s5 => ?_
          obtain ⟨f1, f2, f3⟩ := m5.own d1 d2 d3
          have m15 := m13.trans m5
          have hr5 : RWs K F5 κ5 us acc := m5.rws (m3.rws hr)
          cases b with
          | true =>
            simp only [if_true] at hfo2 ⊢
            obtain ⟨⟨y, μ7⟩, e7, h7⟩ := Option.map_eq_some_iff.mp hfo2
            cases h7
            refine he F0 H0 κ0 σ4 F5 H5 κ5 ρ2 μ6 y _ (S4.move m5 s5) e7 _ fun v F6 H6 κ6 m6 s6 r6 => ?_
            obtain ⟨c1, c2, c3⟩ := m6.own f1 f2 f3
            have m16 := m15.trans m6
            have hus : us.length < sizeLine := by have := pr_len hr; omega
            refine ⟨us, c1, hus, F6, κ6, us ++ [v], acc ++ [y], m16.put (.inl hD) c1 c2, s6.put c3, upd_same, c2, c3, pr_append (m6.rws hr5) (.cons r6 .nil), by rw [List.length_append, List.length_singleton]; omega, ?_⟩
            rw [hro]
            simp
          | false =>
            simp only [Bool.false_eq_true, if_false] at hfo2 ⊢
            cases hfo2
            refine ⟨F5, κ5, us, acc, m15, s5, f1, f2, f3, hr5, by omega, ?_⟩
            rw [hro]
            simp
      · cases h4
    · have e : i = xs.length := by omega
      subst e
      rw [List.drop_length] at hc
      cases hc
      rw [List.append_nil] at hro
      subst hro
      have hnD : Fre (H Dd) := by
        rcases fre_or (H Dd) with f | ⟨u, e, nt⟩
        · exact f
        · by_cases hk : Dd ∈ κ
          · have : Dd ∈ κ1 := by obtain ⟨r, e, _⟩ := m1.c; rw [e]; exact List.mem_append_left _ hk
            exact absurd this hD1
          · have := m1.keep Dd u e nt hk
            rw [hD] at this; cases this
      exact .inl ⟨J1.stop _ F2 H2 κ2 _ m2.f hr2 m2.s s2 g2 (Nat.le_refl _), q Dd us F2 H2 κ2 (m1.trans m2) s2 hDl hDf hDk hnD hr⟩
  · cases h1
theorem yf_lc {elt tgt iter : Expr} {ifs : List Expr} {scope : Scope} {own : List (Str × Nat)} {pos : Pos} {mi : YM YIt} {is : List Nat} {g : W → YF → Option YF} {mt : YM Bool} {me : YM W} (hN : ∀ i0, (X i0).N.Nodup) (ok : ∀ i0, BlkOk (X i0).N (X i0).env.scope scope own) (hi : YI X T K cl tgt iter mi)
    (hg : YG (bx X scope) T K cl tgt is g) (ht : YTs (bx X scope) T K cl ifs mt) (he : YD (bx X scope) T K cl elt me)
    (hc : ∀ i0, (X i0).calm = true := by intro _; rfl) (hv : ∀ i ∈ is, i ∈ own.map (·.2) := by decide) (hs : ∀ i0, ∀ x, foldedSetIterable iter (X i0).env x = pure x := by intro _ _; rfl) : YFd X T K cl (.ListComp elt [⟨tgt, iter, ifs, 0⟩] scope pos) (yLc mi (own.map (·.2)) g mt me) := by
  obtain ⟨wi, p1, l1⟩ := hi
  obtain ⟨tg, p2, l2⟩ := hg
  obtain ⟨tt, p3, l3⟩ := ht
  obtain ⟨te, p4, l4⟩ := he
  exact ⟨_, fun i0 => pe_lc (hc i0) (hN i0) (p1 i0) (ok i0) (fun s H C cl fp => p2 (i0, s, H, C, cl, fp)) (fun s H C cl fp => p3 (i0, s, H, C, cl, fp)) (fun s H C cl fp => p4 (i0, s, H, C, cl, fp)) (hs i0), fy_lc l1 l2 l3 l4 hv⟩
/-- x = [.. for ..] on one line; fz: as data or as a cell -/
theorem ys_setLc {i : Nat} {y : Str} {py : Pos} {elt tgt iter : Expr} {ifs : List Expr} {scope : Scope} {own : List (Str × Nat)} {pos spos : Pos} {mi : YM YIt} {is : List Nat} {g : W → YF → Option YF} {mt : YM Bool} {me : YM W} (hN : ∀ i0, (X i0).N.Nodup) (ok : ∀ i0, BlkOk (X i0).N (X i0).env.scope scope own) (hi : YI X T K cl tgt iter mi)
    (hg : YG (bx X scope) T K cl tgt is g) (ht : YTs (bx X scope) T K cl ifs mt) (he : YD (bx X scope) T K cl elt me)
    (hsw : ∀ i0, swapsWith (.ListComp elt [⟨tgt, iter, ifs, 0⟩] scope pos) (some (.Name y py)) spos.line (X i0).env = pure true) (hy : ∀ i0, (X i0).N[i]? = some y := by intro _; rfl) (hyl : ∀ i0, (X i0).env.scope.names.lookup y = some .local := by intro _; rfl)
    (hc : ∀ i0, (X i0).calm = true := by intro _; rfl) (hv : ∀ i ∈ is, i ∈ own.map (·.2) := by decide) (hs : ∀ i0, ∀ x, foldedSetIterable iter (X i0).env x = pure x := by intro _ _; rfl) : YS X T K cl Wx (.Assign [.Name y py] (.ListComp elt [⟨tgt, iter, ifs, 0⟩] scope pos) spos) (yAsg (yL (yLc mi (own.map (·.2)) g mt me)) (ygSet i)) := by
  obtain ⟨wi, p1, l1⟩ := hi
  obtain ⟨tg, p2, l2⟩ := hg
  obtain ⟨tt, p3, l3⟩ := ht
  obtain ⟨te, p4, l4⟩ := he
  refine ⟨_, fun i0 => ps_setLc (hc i0) (hN i0) (hy i0) (hyl i0) (hsw i0) (p1 i0) (ok i0) (fun s H C cl fp => p2 (i0, s, H, C, cl, fp)) (fun s H C cl fp => p3 (i0, s, H, C, cl, fp)) (fun s H C cl fp => p4 (i0, s, H, C, cl, fp)) (hs i0), ?_⟩
  intro F0 H0 κ0 σ F H κ ρ μ o μ' De S h Q
  unfold yAsg at h
  obtain ⟨⟨w, μ1⟩, e1, h1⟩ := Option.bind_eq_some_iff.mp h
  obtain ⟨ρ2, e2, h2⟩ := Option.map_eq_some_iff.mp h1
  cases h2
  unfold yL at e1
  obtain ⟨⟨ws, μ2⟩, e3, h3⟩ := Option.bind_eq_some_iff.mp e1
  obtain ⟨ds, e4, h4⟩ := Option.map_eq_some_iff.mp h3
  cases h4
  refine (fy_lc l1 l2 l3 l4 hv) F0 H0 κ0 σ F H κ ρ μ ws _ S e3 _ fun a vs F1 H1 κ1 m1 s1 ha hf hk hn r => ?_
  obtain ⟨m2, s2, e⟩ := m1.frz s1 ha hf hk hn
  unfold ygSet at e2
  split at e2
  · rename_i hl
    cases e2
    exact Q _ _ H1 κ1 ((S.move m2 s2).set (.da (.lst (SqL.of upd_same) ((allDa_rp r e4).mono e))) hl) m2
  · cases e2
end
end Md

/-! Md5: methods of lists that are cells; dicts that are cells; len, list(). -/
namespace Md
open PySem PySem.Spec PyProof.Rows L2 Pd
/-! ### methods of a list -/
abbrev LF := List W → List W → Option (W × List W)
def MC (T : List (Addr × Str)) (K : PySem.W.Frag) (r : V → List V → Hp → VK → Prop) (f : LF) : Prop := ∀ (F H : Hp) (κ : List Addr) (a : Addr) (vs xs : List V) (ws us : List W) (w : W) (ws' : List W), Sub T F H → H a = some (.lst vs) → RWs K F κ vs ws → RWs K F κ xs us → f ws us = some (w, ws') →
  ∀ Q : VK, (∀ v vs', RW K F κ v w → RWs K F κ vs' ws' → Q v (upd H a (.lst vs'))) → r (.ref a) xs H Q
def isL (μ : Sto) (n : Nat) : Bool := match μ[n]? with
  | some (.lst _) => true
  | _ => false
def yMC (f : LF) (o : YM W) (m : YM (List W)) : YM W := fun ρ μ => (o ρ μ).bind fun p => match p.1 with
  | .rf n => if isL p.2 n = true then (m ρ p.2).bind fun q => match q.2[n]? with
      | some (.lst ws) => (f ws q.1).map fun z => (z.1, q.2.set n (.lst z.2))
      | _ => none
    else none
  | _ => none
section
variable {ι : Type} {T : List (Addr × Str)} {K : PySem.W.Frag} {cl : Cf} {Wx : WN} {X : ι → Cx}
theorem Mov.at {F H F' H' : Hp} {κ κ' : List Addr} (m : Mov T F H κ F' H' κ') {n : Nat} {a : Addr} (e : κ[n]? = some a) : κ'[n]? = some a := by
  obtain ⟨r, e2, _⟩ := m.c
  rw [e2]; exact get_app e
theorem isL_of {μ : Sto} {n : Nat} (h : isL μ n = true) : ∃ ws, μ[n]? = some (.lst ws) := by
  unfold isL at h
  split at h
  · rename_i ws e; exact ⟨ws, e⟩
  · cases h
theorem ey_mc {r : V → List V → Hp → VK → Prop} {f : LF} {to : TE} {ta : TA} {o : YM W} {m : YM (List W)} (hm : MC T K r f) (ho : EY T K cl to o) (ha : AY T K cl ta m) : EY T K cl (tBM K "list" r to ta) (yMC f o m) := by
  intro F0 H0 κ0 σ F H κ ρ μ w μ' S h Q q
  unfold yMC at h
  obtain ⟨⟨x, μ1⟩, e1, h1⟩ := Option.bind_eq_some_iff.mp h
  clear h
  refine ho F0 H0 κ0 σ F H κ ρ μ x μ1 S e1 _ fun v F1 H1 κ1 m1 s1 r1 => ?_
  clear e1
  have S1 := S.move m1 s1
  cases r1 with
  | da r1 => cases h1
  | rf e2 =>
    rename_i n a
    simp only at h1
    split at h1
    · rename_i hL
      obtain ⟨⟨us, μ2⟩, e3, h2⟩ := Option.bind_eq_some_iff.mp h1
      clear h1
      obtain ⟨ws0, e0⟩ := isL_of hL
      obtain ⟨vs0, a0, _⟩ := s1.ok _ _ _ e0 e2
      refine ⟨.inl ⟨rfl, _, SqL.of a0⟩, ?_⟩
      refine ha F0 H0 κ0 σ F1 H1 κ1 ρ μ1 us μ2 S1 e3 _ fun xs F2 H2 κ2 m2 s2 r2 => ?_
      simp only at h2
      split at h2
      · rename_i ws e4
        obtain ⟨⟨z1, z2⟩, e5, h3⟩ := Option.map_eq_some_iff.mp h2
        cases h3
        have e2' := m2.at e2
        obtain ⟨vs, a1, a2, a3⟩ := s2.ok _ _ _ e4 e2'
        refine hm F2 H2 κ2 a vs xs ws us _ _ m2.s a1 a3 r2 e5 Q fun v vs' rv rvs => ?_
        have m3 : Mov T F2 H2 κ2 F2 (upd H2 a (.lst vs')) κ2 := Mov.write m2.s a1 a2 (List.mem_of_getElem? e2') (Tabs_put a1)
        exact q v F2 _ κ2 ((m1.trans m2).trans m3) (s2.write e2' ⟨vs', upd_same, a2, rvs⟩) rv
      · cases h2
    · cases h1
theorem tBM0_of {r : V → List V → Hp → VK → Prop} {to : TE} {Ty : String} {σ : St} {H : Hp} {Q : VK} (h : tBM K Ty r to tNil σ H Q) : tBM0 K Ty r to σ H Q := h
def fApp : LF := fun ws us => match us with
  | [u] => if ws.length < sizeLine then some (.da .none, ws ++ [u]) else none
  | _ => none
def fPop0 : LF := fun ws us => match us, ws with
  | [.da (.int 0)], w :: r => some (w, r)
  | _, _ => none
def fPop : LF := fun ws us => match us with
  | [] => (ws[ws.length - 1]?).map fun w => (w, ws.dropLast)
  | _ => none
def fClear : LF := fun ws us => match us with
  | [] => some (.da .none, [])
  | _ => none
def fIns : LF := fun ws us => match us with
  | [.da (.int i), u] => if ws.length < sizeLine ∧ 0 ≤ i ∧ i < 2 ^ 63 then some (.da .none, ws.take i.toNat ++ [u] ++ ws.drop i.toNat) else none
  | _ => none
def wInts : List W → Option (List Int)
  | [] => some []
  | .da (.int i) :: r => (wInts r).map (i :: ·)
  | _ :: _ => none
def fRemI : LF := fun ws us => match us with
  | [.da (.int k)] => (wInts ws).bind fun ns => if k ∈ ns then some (.da .none, (ns.erase k).map fun i => .da (.int i)) else none
  | _ => none
theorem mc_app : MC T K rAppend fApp := by
  intro F H κ a vs xs ws us w ws' s ha r1 r2 h Q q
  unfold fApp at h
  cases r2 with
  | nil => cases h
  | cons ru rr =>
    cases rr with
    | cons _ _ => cases h
    | nil =>
      simp only at h
      split at h
      · rename_i hz
        cases h
        exact ⟨a, vs, _, rfl, rfl, ha, by rw [pr_len r1]; exact hz, q _ _ (.da .non) (pr_append r1 (.cons ru .nil))⟩
      · cases h
theorem mc_pop0 : MC T K rPopAt fPop0 := by
  intro F H κ a vs xs ws us w ws' s ha r1 r2 h Q q
  unfold fPop0 at h
  split at h
  · cases h
    cases r2 with
    | cons ru rr =>
      cases rr
      cases ru with
      | da ru =>
        cases ru
        cases r1 with
        | cons rw rr =>
          exact ⟨a, _, 0, 0, _, rfl, rfl, ha, by decide, by decide, by simp [seqIndex?], rfl, q _ _ rw rr⟩
  · cases h
theorem pr_dropLast {α β : Type} {R : α → β → Prop} {xs : List α} {ys : List β} (h : Paired R xs ys) : Paired R xs.dropLast ys.dropLast := by
  rw [List.dropLast_eq_take, List.dropLast_eq_take, pr_len h]
  exact pr_take _ h
theorem mc_pop : MC T K rPop fPop := by
  intro F H κ a vs xs ws us w ws' s ha r1 r2 h Q q
  unfold fPop at h
  cases r2 with
  | cons _ _ => cases h
  | nil =>
    obtain ⟨w0, e1, h⟩ := Option.map_eq_some_iff.mp h
    cases h
    obtain ⟨y, e2, r3⟩ := pr_get r1 e1
    exact ⟨a, vs, y, rfl, rfl, ha, by rw [pr_len r1]; exact e2, q _ _ r3 (pr_dropLast r1)⟩
theorem mc_clear : MC T K rClear fClear := by
  intro F H κ a vs xs ws us w ws' s ha r1 r2 h Q q
  unfold fClear at h
  cases r2 with
  | cons _ _ => cases h
  | nil =>
    cases h
    exact ⟨a, vs, rfl, rfl, ha, q _ _ (.da .non) .nil⟩
def rIns : V → List V → Hp → VK → Prop := fun x vs H Q => ∃ (l : Addr) (xs : List V) (i : Int) (y : V), x = .ref l ∧ vs = [.int i, y] ∧ H l = some (.lst xs) ∧ xs.length < sizeLine ∧ 0 ≤ i ∧ i < 2 ^ 63 ∧ Q .non (upd H l (.lst (xs.take i.toNat ++ [y] ++ xs.drop i.toNat)))
theorem mc_ins : MC T K rIns fIns := by
  intro F H κ a vs xs ws us w ws' s ha r1 r2 h Q q
  unfold fIns at h
  split at h
  · split at h
    · rename_i hz
      cases h
      cases r2 with
      | cons ru rr =>
        cases rr with
        | cons ru2 rr2 =>
          cases rr2
          cases ru with
          | da ru =>
            cases ru
            exact ⟨a, vs, _, _, rfl, rfl, ha, by rw [pr_len r1]; exact hz.1, hz.2.1, hz.2.2, q _ _ (.da .non) (pr_append (pr_append (pr_take _ r1) (.cons ru2 .nil)) (pr_drop _ r1))⟩
    · cases h
  · cases h
theorem wInts_rp {F : Hp} {κ : List Addr} : ∀ {vs : List V} {ws : List W} {ns : List Int}, RWs K F κ vs ws → wInts ws = some ns → vs = ns.map V.int
  | _, _, _, .nil, h => by cases h; rfl
  | _, _, _, .cons hv r, h => by
    unfold wInts at h
    split at h
    · rename_i e; cases e
    · rename_i i r' e
      cases e
      obtain ⟨ms, e, h⟩ := Option.map_eq_some_iff.mp h
      subst h
      cases hv with
      | da hv => cases hv; rw [wInts_rp r e]; rfl
    · cases h
theorem ints_rws {F : Hp} {κ : List Addr} : ∀ ns : List Int, RWs K F κ (ns.map V.int) (ns.map fun i => W.da (.int i))
  | [] => .nil
  | n :: ns => .cons (.da (.int n)) (ints_rws ns)
theorem mc_remI : MC T K rRemI fRemI := by
  intro F H κ a vs xs ws us w ws' s ha r1 r2 h Q q
  unfold fRemI at h
  split at h
  · rename_i k
    obtain ⟨ns, e1, h1⟩ := Option.bind_eq_some_iff.mp h
    split at h1
    · rename_i hk
      cases h1
      cases r2 with
      | cons ru rr =>
        cases rr
        cases ru with
        | da ru =>
          cases ru
          have ev := wInts_rp r1 e1
          subst ev
          have hi := List.idxOf_lt_length_of_mem hk
          have e2 : ns.erase k = ns.eraseIdx (ns.idxOf k) := List.erase_eq_eraseIdx_of_idxOf rfl
          refine ⟨a, ns, k, ns.idxOf k, rfl, rfl, ha, by rw [List.getElem?_eq_getElem hi, List.getElem_idxOf hi], fun m hm z => ?_, ?_⟩
          · obtain ⟨h1, h2⟩ := List.getElem?_eq_some_iff.mp z
            have : ns.idxOf k ≤ m := by
              have := List.not_of_lt_findIdx (p := (· == k)) (xs := ns) (i := m) hm
              rw [h2] at this
              simp at this
            omega
          · rw [e2] at q
            exact q _ _ (.da .non) (ints_rws _)
    · cases h1
  · cases h
variable {o e : Expr} {es : List Expr} {name : Str} {apos cpos : Pos} {mo : YM W} {m : YM (List W)}
theorem yd_bm {id : String} {r : V → List V → Hp → VK → Prop} {f : LF} (slot : PySem.Slot "list" name id) (hty : typeOf (.builtin id) = pure (.type "method_descriptor")) (hm : ∀ i0, MtR (X i0) id r) (hc : MC T K r f) (ho : YD X T K cl o mo) (ha : YA X T K cl (e :: es) m)
    (hbase : ∀ i0, attributeBase o name (X i0).env (eval o (X i0).env) = eval o (X i0).env := by intro _; rfl)
    (hfew : ∀ i0, ((backTo cpos (starEach (e :: es) (X i0).env)).all (fun x => !x.1) && (backToKw cpos (keywordEach [] (X i0).env)).all (fun x => x.1.isSome)
      && decide ((e :: es).length + ([] : List Keyword).length + (if ([] : List Keyword).isEmpty then 0 else 1) < 30)) = true := by intro _; rfl)
    (hline : (apos.endLine == cpos.line) = true := by rfl) (hs : ∀ i0, starEach (e :: es) (X i0).env = (false, eval e (X i0).env) :: starEach es (X i0).env := by intro _; rfl) (hplain : ∀ i0, (backTo cpos (starEach es (X i0).env)).any (·.1) = false := by intro _; rfl) (k : ∀ i0, (X i0).K = K := by intro _; rfl) :
    YD X T K cl (.Call (.Attribute o name apos) (e :: es) [] cpos) (yMC f mo m) := by
  obtain ⟨t, p, l⟩ := ho
  obtain ⟨u, p2, l2⟩ := ha
  exact ⟨tBM K "list" r t u, fun i0 => by have e := k i0; subst e; exact pe_bm PySem.F.plainAttrs_list slot hty (hm i0) (p i0) (p2 i0) (hbase i0) (hfew i0) hline (hs i0) (hplain i0), ey_mc hc l l2⟩
theorem ay_nil : AY T K cl tNil yNil := by
  intro F0 H0 κ0 σ F H κ ρ μ w μ' S h Q q
  cases h
  exact q [] F H κ (Mov.refl S.s) S.st .nil
theorem yd_bm0 {id : String} {r : V → List V → Hp → VK → Prop} {f : LF} (slot : PySem.Slot "list" name id) (hty : typeOf (.builtin id) = pure (.type "method_descriptor")) (hm : ∀ i0, MtR (X i0) id r) (hc : MC T K r f) (ho : YD X T K cl o mo)
    (hbase : ∀ i0, attributeBase o name (X i0).env (eval o (X i0).env) = eval o (X i0).env := by intro _; rfl)
    (hline : (apos.endLine == cpos.line) = true := by rfl) (k : ∀ i0, (X i0).K = K := by intro _; rfl) :
    YD X T K cl (.Call (.Attribute o name apos) [] [] cpos) (yMC f mo yNil) := by
  obtain ⟨t, p, l⟩ := ho
  exact ⟨tBM K "list" r t tNil, fun i0 => by have e := k i0; subst e; exact pe_bm0 PySem.F.plainAttrs_list slot hty (hm i0) (p i0) (hbase i0) hline, ey_mc hc l ay_nil⟩
/-! ### dicts -/
def gVal {β : Type} (kvs : List (Key × β)) (k : Key) : Option β := (kvs.find? fun p => decide (p.1 = k)).map (·.2)
def gPut {β : Type} (kvs : List (Key × β)) (k : Key) (v : β) : List (Key × β) := if (kvs.any fun p => decide (p.1 = k)) = true then kvs.map (fun p => if p.1 = k then (p.1, v) else p) else kvs ++ [(k, v)]
def gDrop {β : Type} (kvs : List (Key × β)) (k : Key) : List (Key × β) := kvs.filter fun p => decide (p.1 ≠ k)
variable {F H : Hp} {κ : List Addr} {μ : Sto}
theorem g_val (k : Key) : ∀ {vs : List (Key × V)} {ws : List (Key × W)}, RWp Key K F κ vs ws → (valV vs k = none ∧ gVal ws k = none) ∨ ∃ v w, valV vs k = some v ∧ gVal ws k = some w ∧ RW K F κ v w
  | _, _, .nil => .inl ⟨rfl, rfl⟩
  | (a, v) :: vs, (b, w) :: ws, .cons h r => by
    obtain ⟨h1, h2⟩ := h
    simp only at h1 h2
    subst h1
    by_cases e : a = k
    · subst e
      exact .inr ⟨v, w, by simp [valV], by simp [gVal], h2⟩
    · have e1 : valV ((a, v) :: vs) k = valV vs k := valV_neg e
      have e2 : gVal ((a, w) :: ws) k = gVal ws k := by simp [gVal, List.find?_cons, e]
      rw [e1, e2]
      exact g_val k r
theorem g_any (k : Key) : ∀ {vs : List (Key × V)} {ws : List (Key × W)}, RWp Key K F κ vs ws → (vs.any fun p => decide (p.1 = k)) = ws.any fun p => decide (p.1 = k)
  | _, _, .nil => rfl
  | _, _, .cons h r => by rw [List.any_cons, List.any_cons, h.1, g_any k r]
theorem g_map {k : Key} {v : V} {w : W} (h : RW K F κ v w) : ∀ {vs : List (Key × V)} {ws : List (Key × W)}, RWp Key K F κ vs ws → RWp Key K F κ (vs.map fun p => if p.1 = k then (p.1, v) else p) (ws.map fun p => if p.1 = k then (p.1, w) else p)
  | _, _, .nil => .nil
  | (a, x) :: _, (b, y) :: _, .cons q r => by
    obtain ⟨q1, q2⟩ := q
    simp only at q1 q2
    subst q1
    rw [List.map_cons, List.map_cons]
    refine .cons ?_ (g_map h r)
    simp only
    by_cases e : a = k
    · rw [if_pos e, if_pos e]; exact ⟨rfl, h⟩
    · rw [if_neg e, if_neg e]; exact ⟨rfl, q2⟩
theorem g_put {k : Key} {v : V} {w : W} {vs : List (Key × V)} {ws : List (Key × W)} (r : RWp Key K F κ vs ws) (h : RW K F κ v w) : RWp Key K F κ (putK vs k v) (gPut ws k w) := by
  unfold putK gPut
  rw [g_any k r]
  split
  · exact g_map h r
  · exact pr_append r (.cons ⟨rfl, h⟩ .nil)
theorem g_drop {k : Key} : ∀ {vs : List (Key × V)} {ws : List (Key × W)}, RWp Key K F κ vs ws → RWp Key K F κ (dropK vs k) (gDrop ws k)
  | _, _, .nil => .nil
  | (a, x) :: vs, (b, y) :: ws, .cons q r => by
    have ih := g_drop (k := k) r
    obtain ⟨q1, q2⟩ := q
    simp only at q1 q2
    subst q1
    unfold dropK gDrop at ih ⊢
    rw [List.filter_cons, List.filter_cons]
    split
    · exact .cons ⟨rfl, q2⟩ ih
    · exact ih
theorem rw_key {v : V} {d : D} {k : Key} (r : RW K F κ v (.da d)) (h : keyOf d = some k) : v = kV k := by
  cases r with
  | da r => exact rp_key r h
def yDget (a b : YM W) : YM W := fun ρ μ => (a ρ μ).bind fun p => (b ρ p.2).bind fun q => match p.1, q.1 with
  | .rf n, .da d => match q.2[n]? with
    | some (.dct kws) => (keyOf d).bind fun k => (gVal kws k).map fun w => (w, q.2)
    | _ => none
  | _, _ => none
theorem yd_dget {a b : Expr} {ma mb : YM W} {pos : Pos} (hu : ∀ i0, (X i0).A.units + 65 < cLine) (ha : YD X T K cl a ma) (hb : YD X T K cl b mb) (hp : NoSl b := by intro _ _; rfl) : YD X T K cl (.Subscript a b pos) (yDget ma mb) := by
  obtain ⟨t, p, l⟩ := ha
  obtain ⟨u, p2, l2⟩ := hb
  refine ⟨tDGet t u, fun i0 => pe_dget (by have := hu i0; omega) (p i0) (p2 i0) hp, ?_⟩
  intro F0 H0 κ0 σ F H κ ρ μ w μ' S h Q q
  unfold yDget at h
  obtain ⟨⟨x, μ1⟩, e1, h1⟩ := Option.bind_eq_some_iff.mp h
  obtain ⟨⟨y, μ2⟩, e2, h2⟩ := Option.bind_eq_some_iff.mp h1
  clear h h1
  refine l F0 H0 κ0 σ F H κ ρ μ x μ1 S e1 _ fun v F1 H1 κ1 m1 s1 r1 => ?_
  refine l2 F0 H0 κ0 σ F1 H1 κ1 ρ μ1 y μ2 (S.move m1 s1) e2 _ fun u F2 H2 κ2 m2 s2 r2 => ?_
  have r1' := m2.rw r1
  simp only at h2
  split at h2
  · split at h2
    · rename_i kws e3
      obtain ⟨k, e4, h3⟩ := Option.bind_eq_some_iff.mp h2
      obtain ⟨w', e5, h4⟩ := Option.map_eq_some_iff.mp h3
      cases h4
      have ek := rw_key r2 e4
      subst ek
      cases r1' with
      | rf e6 =>
        obtain ⟨kvs, a1, a2, a3⟩ := s2.ok _ _ _ e3 e6
        rcases g_val k a3 with ⟨_, z⟩ | ⟨v', w2, z1, z2, z3⟩
        · rw [e5] at z; cases z
        · rw [e5] at z2; cases z2
          refine ⟨_, v', rfl, ?_, q v' F2 H2 κ2 (m1.trans m2) s2 z3⟩
          rw [← z1]; exact DGet.k a1
    · cases h2
  · cases h2
/-- d.get(k) -/
def isD (μ : Sto) (n : Nat) : Bool := match μ[n]? with
  | some (.dct _) => true
  | _ => false
theorem isD_of {μ : Sto} {n : Nat} (h : isD μ n = true) : ∃ ws, μ[n]? = some (.dct ws) := by
  unfold isD at h
  split at h
  · rename_i ws e; exact ⟨ws, e⟩
  · cases h
def yDget1 (a b : YM W) : YM W := fun ρ μ => (a ρ μ).bind fun p => match p.1 with
  | .rf n => if isD p.2 n = true then (b ρ p.2).bind fun q => match q.1, q.2[n]? with
      | .da d, some (.dct kws) => (keyOf d).map fun k => ((gVal kws k).getD (.da .none), q.2)
      | _, _ => none
    else none
  | _ => none
theorem yd_dget1 {a b : Expr} {ma mb : YM W} (hu : ∀ i0, (X i0).A.units + 65 < cLine) (ha : YD X T K cl a ma) (hb : YD X T K cl b mb) (m : ∀ i0, M1 (X i0) a "get" apos b cpos := by intro _; exact ⟨rfl, rfl, rfl, rfl⟩) : YD X T K cl (.Call (.Attribute a "get" apos) [b] [] cpos) (yDget1 ma mb) := by
  obtain ⟨t, p, l⟩ := ha
  obtain ⟨u, p2, l2⟩ := hb
  refine ⟨tDGet1 t u, fun i0 => pe_dget1 (by have := hu i0; omega) (p i0) (p2 i0) (m i0), ?_⟩
  intro F0 H0 κ0 σ F H κ ρ μ w μ' S h Q q
  unfold yDget1 at h
  obtain ⟨⟨x, μ1⟩, e1, h1⟩ := Option.bind_eq_some_iff.mp h
  clear h
  refine l F0 H0 κ0 σ F H κ ρ μ x μ1 S e1 _ fun v F1 H1 κ1 m1 s1 r1 => ?_
  cases r1 with
  | da r1 => cases h1
  | rf e3 =>
    rename_i n a0
    simp only at h1
    split at h1
    · rename_i hD
      obtain ⟨kws0, e0⟩ := isD_of hD
      obtain ⟨kvs0, b1, _⟩ := s1.ok _ _ _ e0 e3
      obtain ⟨⟨y, μ2⟩, e2, h2⟩ := Option.bind_eq_some_iff.mp h1
      clear h1
      refine ⟨_, rfl, .inl ⟨_, .inl b1⟩, ?_⟩
      refine l2 F0 H0 κ0 σ F1 H1 κ1 ρ μ1 y μ2 (S.move m1 s1) e2 _ fun u F2 H2 κ2 m2 s2 r2 => ?_
      simp only at h2
      split at h2
      · rename_i d kws e4
        obtain ⟨k, e5, h3⟩ := Option.map_eq_some_iff.mp h2
        cases h3
        have ek := rw_key r2 e5
        subst ek
        obtain ⟨kvs, a1, a2, a3⟩ := s2.ok _ _ _ e4 (m2.at e3)
        refine ⟨valV kvs k, DGet.k a1, ?_⟩
        rcases g_val k a3 with ⟨z1, z2⟩ | ⟨v', w2, z1, z2, z3⟩
        · rw [z1]; rw [z2] at q; exact q _ F2 H2 κ2 (m1.trans m2) s2 (.da .non)
        · rw [z1]; rw [z2] at q; exact q _ F2 H2 κ2 (m1.trans m2) s2 z3
      · cases h2
    · cases h1
/-- d.pop(k), which is there -/
def yDpop (a b : YM W) : YM W := fun ρ μ => (a ρ μ).bind fun p => match p.1 with
  | .rf n => if isD p.2 n = true then (b ρ p.2).bind fun q => match q.1, q.2[n]? with
      | .da d, some (.dct kws) => (keyOf d).bind fun k => (gVal kws k).map fun w => (w, q.2.set n (.dct (gDrop kws k)))
      | _, _ => none
    else none
  | _ => none
theorem dct_put {n : Nat} {a : Addr} {kvs kvs' : List (Key × V)} {kws' : List (Key × W)} (S : StOk K cl F H κ μ) (s : Sub T F H) (e2 : κ[n]? = some a) (a1 : H a = some (.dK kvs)) (a2 : F a = Option.none) (r : RWp Key K F κ kvs' kws') :
    Mov T F H κ F (upd H a (.dK kvs')) κ ∧ StOk K cl F (upd H a (.dK kvs')) κ (μ.set n (.dct kws')) :=
  ⟨Mov.write s a1 a2 (List.mem_of_getElem? e2) (Tabs_putD a1), S.write e2 ⟨kvs', upd_same, a2, r⟩⟩
theorem yd_dpop {a b : Expr} {ma mb : YM W} (ha : YD X T K cl a ma) (hb : YD X T K cl b mb) (m : ∀ i0, M1 (X i0) a "pop" apos b cpos := by intro _; exact ⟨rfl, rfl, rfl, rfl⟩) : YD X T K cl (.Call (.Attribute a "pop" apos) [b] [] cpos) (yDpop ma mb) := by
  obtain ⟨t, p, l⟩ := ha
  obtain ⟨u, p2, l2⟩ := hb
  refine ⟨tDPop1 t u, fun i0 => pe_dpop1 (p i0) (p2 i0) (m i0), ?_⟩
  intro F0 H0 κ0 σ F H κ ρ μ w μ' S h Q q
  unfold yDpop at h
  obtain ⟨⟨x, μ1⟩, e1, h1⟩ := Option.bind_eq_some_iff.mp h
  clear h
  refine l F0 H0 κ0 σ F H κ ρ μ x μ1 S e1 _ fun v F1 H1 κ1 m1 s1 r1 => ?_
  cases r1 with
  | da r1 => cases h1
  | rf e3 =>
    rename_i n a0
    simp only at h1
    split at h1
    · rename_i hD
      obtain ⟨kws0, e0⟩ := isD_of hD
      obtain ⟨kvs0, b1, _⟩ := s1.ok _ _ _ e0 e3
      obtain ⟨⟨y, μ2⟩, e2, h2⟩ := Option.bind_eq_some_iff.mp h1
      clear h1
      refine ⟨_, rfl, .inl ⟨_, .inl b1⟩, ?_⟩
      refine l2 F0 H0 κ0 σ F1 H1 κ1 ρ μ1 y μ2 (S.move m1 s1) e2 _ fun u F2 H2 κ2 m2 s2 r2 => ?_
      simp only at h2
      split at h2
      · rename_i d kws e4
        obtain ⟨k, e5, h3⟩ := Option.bind_eq_some_iff.mp h2
        obtain ⟨w', e6, h4⟩ := Option.map_eq_some_iff.mp h3
        cases h4
        have ek := rw_key r2 e5
        subst ek
        have e3' := m2.at e3
        obtain ⟨kvs, a1, a2, a3⟩ := s2.ok _ _ _ e4 e3'
        rcases g_val k a3 with ⟨_, z⟩ | ⟨v', w2, z1, z2, z3⟩
        · rw [e6] at z; cases z
        · rw [e6] at z2; cases z2
          obtain ⟨m3, s3⟩ := dct_put s2 m2.s e3' a1 a2 (g_drop (k := k) a3)
          exact ⟨kvs, k, v', a1, rfl, z1, q v' F2 _ κ2 ((m1.trans m2).trans m3) s3 z3⟩
      · cases h2
    · cases h1
/-- k in d -/
def yDin (b : Bool) (x y : YM W) : YM W := fun ρ μ => (x ρ μ).bind fun p => (y ρ p.2).bind fun q => match p.1, q.1 with
  | .da d, .rf n => match q.2[n]? with
    | some (.dct kws) => (keyOf d).map fun k => (.da (.bool (b ^^ (gVal kws k).isSome)), q.2)
    | _ => none
  | _, _ => none
theorem ey_din {ty td : TE} {b : Bool} {x y : YM W} (hx : EY T K cl ty x) (hy : EY T K cl td y) : EY T K cl (fun σ H Q => ty σ H fun y H1 => td σ H1 fun x H2 => ∃ a o, x = V.ref a ∧ DGet H2 a y o ∧ Q (V.bl (b ^^ o.isSome)) H2) (yDin b x y) := by
  intro F0 H0 κ0 σ F H κ ρ μ w μ' S h Q q
  unfold yDin at h
  obtain ⟨⟨x', μ1⟩, e1, h1⟩ := Option.bind_eq_some_iff.mp h
  obtain ⟨⟨y', μ2⟩, e2, h2⟩ := Option.bind_eq_some_iff.mp h1
  clear h h1
  refine hx F0 H0 κ0 σ F H κ ρ μ x' μ1 S e1 _ fun v F1 H1 κ1 m1 s1 r1 => ?_
  refine hy F0 H0 κ0 σ F1 H1 κ1 ρ μ1 y' μ2 (S.move m1 s1) e2 _ fun u F2 H2 κ2 m2 s2 r2 => ?_
  have r1' := m2.rw r1
  simp only at h2
  split at h2
  · split at h2
    · rename_i kws e3
      obtain ⟨k, e4, h3⟩ := Option.map_eq_some_iff.mp h2
      cases h3
      have ek := rw_key r1' e4
      subst ek
      cases r2 with
      | rf e6 =>
        obtain ⟨kvs, a1, a2, a3⟩ := s2.ok _ _ _ e3 e6
        refine ⟨_, valV kvs k, rfl, DGet.k a1, ?_⟩
        have key : (valV kvs k).isSome = (gVal kws k).isSome := by
          rcases g_val k a3 with ⟨z1, z2⟩ | ⟨v', w2, z1, z2, z3⟩ <;> rw [z1, z2] <;> rfl
        rw [key]
        exact q _ F2 H2 κ2 (m1.trans m2) s2 (.da (.bl _))
    · cases h2
  · cases h2
theorem ey_imp {t u : TE} {m : YM W} (h : EY T K cl t m) (e : ∀ σ H Q, t σ H Q → u σ H Q) : EY T K cl u m := fun F0 H0 κ0 σ F H κ ρ μ w μ' S hm Q q => e σ H Q (h F0 H0 κ0 σ F H κ ρ μ w μ' S hm Q q)
theorem yd_din {i o : Expr} {x y : YM W} {pos : Pos} (hu : ∀ i0, (X i0).A.units + 65 < cLine) (hx : YD X T K cl i x) (hy : YD X T K cl o y) (hm : behindInMarks .In o = false := by rfl) : YD X T K cl (.Compare i [.In] [o] pos) (yDin false x y) := by
  obtain ⟨t, p, l⟩ := hx
  obtain ⟨u, p2, l2⟩ := hy
  refine ⟨_, fun i0 => pe_cmp (pc_din (by have := hu i0; omega) (p i0) (p2 i0)) hm, ey_imp (ey_din (b := false) l l2) fun σ H Q h => ?_⟩
  simpa [tDIn] using h
theorem yt_din {i o : Expr} {x y : YM W} {pos : Pos} (hu : ∀ i0, (X i0).A.units + 65 < cLine) (hx : YD X T K cl i x) (hy : YD X T K cl o y) (hm : behindInMarks .In o = false := by rfl) : YT X T K cl (.Compare i [.In] [o] pos) (yB (yDin false x y)) := by
  obtain ⟨t, p, l⟩ := hx
  obtain ⟨u, p2, l2⟩ := hy
  refine ⟨_, fun i0 => pt_cmp (pc_din (by have := hu i0; omega) (p i0) (p2 i0)) hm, ty_test (ey_imp (ey_din (b := false) l l2) fun σ H Q h => ?_)⟩
  simpa [tDIn] using h
theorem yd_dnotin {i o : Expr} {x y : YM W} {pos : Pos} (hu : ∀ i0, (X i0).A.units + 65 < cLine) (hx : YD X T K cl i x) (hy : YD X T K cl o y) (hm : behindInMarks .NotIn o = false := by rfl) : YD X T K cl (.Compare i [.NotIn] [o] pos) (yDin true x y) := by
  obtain ⟨t, p, l⟩ := hx
  obtain ⟨u, p2, l2⟩ := hy
  refine ⟨_, fun i0 => pe_cmp (pc_dnotin (by have := hu i0; omega) (p i0) (p2 i0)) hm, ey_imp (ey_din (b := true) l l2) fun σ H Q h => ?_⟩
  simpa [tDNotIn] using h
theorem yt_dnotin {i o : Expr} {x y : YM W} {pos : Pos} (hu : ∀ i0, (X i0).A.units + 65 < cLine) (hx : YD X T K cl i x) (hy : YD X T K cl o y) (hm : behindInMarks .NotIn o = false := by rfl) : YT X T K cl (.Compare i [.NotIn] [o] pos) (yB (yDin true x y)) := by
  obtain ⟨t, p, l⟩ := hx
  obtain ⟨u, p2, l2⟩ := hy
  refine ⟨_, fun i0 => pt_cmp (pc_dnotin (by have := hu i0; omega) (p i0) (p2 i0)) hm, ty_test (ey_imp (ey_din (b := true) l l2) fun σ H Q h => ?_)⟩
  simpa [tDNotIn] using h
/-- d[k] = v -/
def yDput (v d i : YM W) : YM YO := fun ρ μ => (v ρ μ).bind fun p => (d ρ p.2).bind fun q => (i ρ q.2).bind fun z => match q.1, z.1 with
  | .rf n, .da x => match z.2[n]? with
    | some (.dct kws) => (keyOf x).bind fun k => if kws.length < sizeLine then some (.nx ρ, z.2.set n (.dct (gPut kws k p.1))) else none
    | _ => none
  | _, _ => none
theorem ys_dput {o i value : Expr} {mv mo mi : YM W} {pos pos' : Pos} (hu : ∀ i0, (X i0).A.units + 65 < cLine) (hv : YD X T K cl value mv) (ho : YD X T K cl o mo) (hi : YD X T K cl i mi) (hs : ∀ i0, swapsWith value (some (.Subscript o i pos')) pos.line (X i0).env = pure false := by intro _; rfl) :
    YS X T K cl Wx (.Assign [.Subscript o i pos'] value pos) (yDput mv mo mi) := by
  obtain ⟨t, p, l⟩ := hv
  obtain ⟨u, p2, l2⟩ := ho
  obtain ⟨z, p3, l3⟩ := hi
  refine ⟨sDPut u z t, fun i0 => ps_dput (by have := hu i0; omega) (p2 i0) (p3 i0) (p i0) (hs i0), ?_⟩
  intro F0 H0 κ0 σ F H κ ρ μ oo μ' De S h Q
  unfold yDput at h
  obtain ⟨⟨w, μ1⟩, e1, h1⟩ := Option.bind_eq_some_iff.mp h
  obtain ⟨⟨x, μ2⟩, e2, h2⟩ := Option.bind_eq_some_iff.mp h1
  obtain ⟨⟨y, μ3⟩, e3, h3⟩ := Option.bind_eq_some_iff.mp h2
  clear h h1 h2
  refine l F0 H0 κ0 σ F H κ ρ μ w μ1 S e1 _ fun v F1 H1 κ1 m1 s1 r1 => ?_
  have S1 := S.move m1 s1
  refine l2 F0 H0 κ0 σ F1 H1 κ1 ρ μ1 x μ2 S1 e2 _ fun u F2 H2 κ2 m2 s2 r2 => ?_
  have S2 := S1.move m2 s2
  refine l3 F0 H0 κ0 σ F2 H2 κ2 ρ μ2 y μ3 S2 e3 _ fun z F3 H3 κ3 m3 s3 r3 => ?_
  have S3 := S2.move m3 s3
  have r1' := m3.rw (m2.rw r1)
  have r2' := m3.rw r2
  simp only at h3
  split at h3
  · split at h3
    · rename_i kws e4
      obtain ⟨k, e5, h4⟩ := Option.bind_eq_some_iff.mp h3
      split at h4
      · rename_i hz
        cases h4
        have ek := rw_key r3 e5
        subst ek
        cases r2' with
        | rf e6 =>
          obtain ⟨kvs, a1, a2, a3⟩ := s3.ok _ _ _ e4 e6
          obtain ⟨m4, s4⟩ := dct_put s3 m3.s e6 a1 a2 (g_put (k := k) a3 r1')
          exact ⟨_, _, rfl, DPut.k a1 (by rw [pr_len a3]; exact hz), Q σ F3 _ κ3 (S3.move m4 s4) (((m1.trans m2).trans m3).trans m4)⟩
      · cases h4
    · cases h3
  · cases h3
/-- del d[k] -/
def yDdel (d i : YM W) : YM YO := fun ρ μ => (d ρ μ).bind fun q => (i ρ q.2).bind fun z => match q.1, z.1 with
  | .rf n, .da x => match z.2[n]? with
    | some (.dct kws) => (keyOf x).bind fun k => if (gVal kws k).isSome = true then some (.nx ρ, z.2.set n (.dct (gDrop kws k))) else none
    | _ => none
  | _, _ => none
theorem ys_ddel {o i : Expr} {mo mi : YM W} {pos pos' : Pos} (ho : YD X T K cl o mo) (hi : YD X T K cl i mi) : YS X T K cl Wx (.Delete [.Subscript o i pos'] pos) (yDdel mo mi) := by
  obtain ⟨u, p2, l2⟩ := ho
  obtain ⟨z, p3, l3⟩ := hi
  refine ⟨sDDel u z, fun i0 => ps_ddel (p2 i0) (p3 i0), ?_⟩
  intro F0 H0 κ0 σ F H κ ρ μ oo μ' De S h Q
  unfold yDdel at h
  obtain ⟨⟨x, μ2⟩, e2, h2⟩ := Option.bind_eq_some_iff.mp h
  obtain ⟨⟨y, μ3⟩, e3, h3⟩ := Option.bind_eq_some_iff.mp h2
  clear h h2
  refine l2 F0 H0 κ0 σ F H κ ρ μ x μ2 S e2 _ fun u F2 H2 κ2 m2 s2 r2 => ?_
  have S2 := S.move m2 s2
  refine l3 F0 H0 κ0 σ F2 H2 κ2 ρ μ2 y μ3 S2 e3 _ fun z F3 H3 κ3 m3 s3 r3 => ?_
  have S3 := S2.move m3 s3
  have r2' := m3.rw r2
  simp only at h3
  split at h3
  · split at h3
    · rename_i kws e4
      obtain ⟨k, e5, h4⟩ := Option.bind_eq_some_iff.mp h3
      split at h4
      · rename_i hz
        cases h4
        have ek := rw_key r3 e5
        subst ek
        cases r2' with
        | rf e6 =>
          obtain ⟨kvs, a1, a2, a3⟩ := s3.ok _ _ _ e4 e6
          obtain ⟨m4, s4⟩ := dct_put s3 m3.s e6 a1 a2 (g_drop (k := k) a3)
          refine ⟨_, kvs, k, rfl, a1, rfl, ?_, Q σ F3 _ κ3 (S3.move m4 s4) ((m2.trans m3).trans m4)⟩
          rcases g_val k a3 with ⟨z1, z2⟩ | ⟨v', w2, z1, z2, z3⟩
          · rw [z2] at hz; cases hz
          · rw [z1]; rfl
      · cases h4
    · cases h3
  · cases h3
end
end Md

/-! Md6: len, list(); defs over a store, their calls; methods; constructors. -/
namespace Md
open PySem PySem.Spec PyProof.Rows L2 Pd
/-! ### len, list() -/
def yLen (a : YM W) : YM W := fun ρ μ => (a ρ μ).bind fun p => match p.1 with
  | .da d => (dLen [d]).map fun x => (.da x, p.2)
  | .rf n => match p.2[n]? with
    | some (.lst ws) => some (.da (.int ws.length), p.2)
    | some (.dct ws) => some (.da (.int ws.length), p.2)
    | _ => none
def rLen4 (K : PySem.W.Frag) : List V → Hp → VK → Prop := fun xs H Q => rLen3 K xs H Q ∨ ∃ a kvs, xs = [V.ref a] ∧ H a = some (.dK kvs) ∧ Q (.int kvs.length) H
theorem call_len4 {Y : Cx} : CallR Y (.builtin "len") (rLen4 Y.K) := CallR.or call_len3 call_lenD
section
variable {ι : Type} {T : List (Addr × Str)} {K : PySem.W.Frag} {cl : Cf} {Wx : WN} {X : ι → Cx}
theorem yd_len {e : Expr} {a : YM W} {p pos : Pos} (ha : YD X T K cl e a) (hm : ∀ i0, (X i0).mg "len" = none) (hg : ∀ i0, Gl (X i0) "len" := by intro _; rfl) (he : ∀ i0, starEach [e] (X i0).env = (false, eval e (X i0).env) :: starEach [] (X i0).env := by intro _; rfl) (hpl : ∀ i0, (backTo pos (starEach [] (X i0).env)).any (·.1) = false := by intro _; rfl) (k : ∀ i0, (X i0).K = K := by intro _; rfl) :
    YD X T K cl (.Call (.Name "len" p) [e] [] pos) (yLen a) := by
  obtain ⟨t, p1, l⟩ := ha
  refine ⟨tCB (rLen4 K) (tCons t tNil), fun i0 => by have e := k i0; subst e; exact pe_callB call_len4 (hg i0) (hm i0) (by decide +kernel) (pa_cons (p1 i0) pa_nil (he i0)) (by decide) (by decide) (he i0) (hpl i0), ?_⟩
  intro F0 H0 κ0 σ F H κ ρ μ w μ' S h Q q
  unfold yLen at h
  obtain ⟨⟨x, μ1⟩, e1, h1⟩ := Option.bind_eq_some_iff.mp h
  clear h
  refine l F0 H0 κ0 σ F H κ ρ μ x μ1 S e1 _ fun v F1 H1 κ1 m1 s1 r1 => ?_
  cases r1 with
  | da r1 =>
    obtain ⟨d, e2, h2⟩ := Option.map_eq_some_iff.mp h1
    cases h2
    exact .inl (cl_len F1 H1 [v] [_] d m1.s (.cons r1 .nil) e2 Q fun z F2 H2 g2 r2 => q z F2 H2 κ1 (m1.trans (.of g2)) (s1.grow m1.s g2) (.da r2))
  | rf e2 =>
    simp only at h1
    split at h1
    · rename_i ws e3
      cases h1
      obtain ⟨vs, a1, a2, a3⟩ := s1.ok _ _ _ e3 e2
      rw [← pr_len a3] at q
      exact .inl (.inl ⟨_, vs, rfl, .inl (SqL.of a1), q _ F1 H1 κ1 m1 s1 (.da (.int _))⟩)
    · rename_i ws e3
      cases h1
      obtain ⟨vs, a1, a2, a3⟩ := s1.ok _ _ _ e3 e2
      rw [← pr_len a3] at q
      exact .inr ⟨_, vs, rfl, a1, q _ F1 H1 κ1 m1 s1 (.da (.int _))⟩
    · cases h1
def kW (k : Key) : W := .da (kD k)
theorem kV_rw {F : Hp} {κ : List Addr} (k : Key) : RW K F κ (kV k) (kW k) := by
  cases k with
  | inl i => exact .da (.int i)
  | inr x => exact .da (.str x)
def yList (a : YM W) : YM (List W) := fun ρ μ => (a ρ μ).bind fun p => match p.1 with
  | .da (.list ds) => some (ds.map .da, p.2)
  | .da (.tuple ds) => some (ds.map .da, p.2)
  | .rf n => match p.2[n]? with
    | some (.lst ws) => some (ws, p.2)
    | some (.dct kws) => some (kws.map fun p => kW p.1, p.2)
    | _ => none
  | _ => none
def rList2 (K : PySem.W.Frag) : List V → Hp → VK → Prop := fun xs H Q => (∃ p ys, xs = [.ref p] ∧ (SqL K H p ys ∨ SqT K H p ys) ∧ ∀ l, H l = none → Q (.ref l) (upd H l (.lst ys))) ∨ ∃ (a : Addr) (kvs : List (Key × V)), xs = [.ref a] ∧ Rd H a (.dK kvs) ∧ ∀ p, H p = none → Q (.ref p) (upd H p (.lst (kvs.map fun kv => kV kv.1)))
theorem call_list2 {Y : Cx} (hc : Y.calm = true) : CallR Y (.type "list") (rList2 Y.K) := CallR.or call_list_of (call_listD hc)
theorem fy_new {F H : Hp} {κ : List Addr} {μ : Sto} {vs : List V} {ws : List W} {p : Addr} (s1 : StOk K cl F H κ μ) (s : Sub T F H) (hp : H p = Option.none) : Mov T F H κ F (upd H p (.lst vs)) κ ∧ StOk K cl F (upd H p (.lst vs)) κ μ ∧ F p = Option.none ∧ p ∉ κ := by
  have hk : p ∉ κ := fun z => by
    obtain ⟨o, e, _⟩ := s1.mem s z
    rw [hp] at e; cases e
  exact ⟨.of (Grow.mine s hp), s1.put hk, s.same.free hp, hk⟩
theorem Mov.freN {F H F' H' : Hp} {κ κ' : List Addr} {a : Addr} (m : Mov T F H κ F' H' κ') (hp : H' a = Option.none) (hk : a ∉ κ') : Fre (H a) := by
  rcases fre_or (H a) with f | ⟨u, e, nt⟩
  · exact f
  · by_cases h : a ∈ κ
    · obtain ⟨r, e, _⟩ := m.c
      exact absurd (by rw [e]; exact List.mem_append_left _ h) hk
    · have := m.keep a u e nt h
      rw [hp] at this; cases this
theorem yf_list {e : Expr} {a : YM W} {p pos : Pos} (ha : YD X T K cl e a) (hm : ∀ i0, (X i0).mg "list" = none) (hc : ∀ i0, (X i0).calm = true := by intro _; rfl) (hg : ∀ i0, Gl (X i0) "list" := by intro _; rfl) (hs : ∀ i0, starEach [e] (X i0).env = (false, eval e (X i0).env) :: starEach [] (X i0).env := by intro _; rfl) (hpl : ∀ i0, (backTo pos (starEach [] (X i0).env)).any (·.1) = false := by intro _; rfl) (k : ∀ i0, (X i0).K = K := by intro _; rfl) :
    YFd X T K cl (.Call (.Name "list" p) [e] [] pos) (yList a) := by
  obtain ⟨t, p1, l⟩ := ha
  refine ⟨tCB (rList2 K) (tCons t tNil), fun i0 => by have e := k i0; subst e; exact pe_callTy (call_list2 (hc i0)) (hg i0) (hm i0) (by decide +kernel) (pa_cons (p1 i0) pa_nil (hs i0)) (by decide) (by decide) (hs i0) (hpl i0), ?_⟩
  intro F0 H0 κ0 σ F H κ ρ μ ws μ' S h Q q
  unfold yList at h
  obtain ⟨⟨x, μ1⟩, e1, h1⟩ := Option.bind_eq_some_iff.mp h
  clear h
  refine l F0 H0 κ0 σ F H κ ρ μ x μ1 S e1 _ fun v F1 H1 κ1 m1 s1 r1 => ?_
  have fin : ∀ (vs : List V) (p : Addr), H1 p = Option.none → StOk K cl F1 H1 κ1 μ' → RWs K F1 κ1 vs ws → Q (.ref p) (upd H1 p (.lst vs)) := fun vs p hp s2 r => by
    obtain ⟨m2, s3, hf, hk⟩ := fy_new (vs := vs) (ws := ws) s2 m1.s hp
    exact q p vs F1 _ κ1 (m1.trans m2) s3 upd_same hf hk (m1.freN hp hk) r
  cases r1 with
  | da r1 =>
    cases r1 with
    | lst hs r => cases h1; exact .inl ⟨_, _, rfl, .inl (m1.s.same.seq hs), fun p hp => fin _ p hp s1 (rpAll_rws r)⟩
    | tup hs r => cases h1; exact .inl ⟨_, _, rfl, .inr (SqT_same m1.s.same hs), fun p hp => fin _ p hp s1 (rpAll_rws r)⟩
    | _ => cases h1
  | rf e2 =>
    simp only at h1
    split at h1
    · rename_i ws' e3
      cases h1
      obtain ⟨vs, a1, a2, a3⟩ := s1.ok _ _ _ e3 e2
      exact .inl ⟨_, _, rfl, .inl (SqL.of a1), fun p hp => fin _ p hp s1 a3⟩
    · rename_i kws e3
      cases h1
      obtain ⟨kvs, a1, a2, a3⟩ := s1.ok _ _ _ e3 e2
      refine .inr ⟨_, kvs, rfl, .inl a1, fun p hp => fin _ p hp s1 ?_⟩
      have : ∀ {l : List (Key × V)} {r : List (Key × W)}, RWp Key K F1 κ1 l r → RWs K F1 κ1 (l.map fun kv => kV kv.1) (r.map fun p => kW p.1) := by
        intro l r h
        induction h with
        | nil => exact .nil
        | cons q _ ih =>
          rw [List.map_cons, List.map_cons, q.1]
          exact .cons (kV_rw _) ih
      exact this a3
    · cases h1
/-- any built-in of data by its name -/
theorem yd_callB {x : Str} {id : String} {r : List V → Hp → VK → Prop} {f : List D → Option D} {e : Expr} {es : List Expr} {m : YM (List W)} {p pos : Pos} (hc : ∀ i0, CallR (X i0) (.builtin id) r) (hf : CL T K r f) (hm : ∀ i0, (X i0).mg x = none) (hv : bootBuiltins x = some (.builtin id)) (ha : YA X T K cl (e :: es) m)
    (hg : ∀ i0, Gl (X i0) x := by intro _; rfl) (hn : x ≠ "__name__" := by decide) (hdb : (x == ("__debug__" : Str)) = false := by decide) (he : ∀ i0, starEach (e :: es) (X i0).env = (false, eval e (X i0).env) :: starEach es (X i0).env := by intro _; rfl) (hpl : ∀ i0, (backTo pos (starEach es (X i0).env)).any (·.1) = false := by intro _; rfl) :
    YD X T K cl (.Call (.Name x p) (e :: es) [] pos) (yA f m) := by
  obtain ⟨t, p1, l⟩ := ha
  exact ⟨_, fun i0 => pe_callB (hc i0) (hg i0) (hm i0) hv (p1 i0) hn hdb (he i0) (hpl i0), ey_cb hf l⟩
theorem yd_callTy {x : Str} {Ty : String} {r : List V → Hp → VK → Prop} {f : List D → Option D} {e : Expr} {es : List Expr} {m : YM (List W)} {p pos : Pos} (hc : ∀ i0, CallR (X i0) (.type Ty) r) (hf : CL T K r f) (hm : ∀ i0, (X i0).mg x = none) (hv : bootBuiltins x = some (.type Ty)) (ha : YA X T K cl (e :: es) m)
    (hg : ∀ i0, Gl (X i0) x := by intro _; rfl) (hn : x ≠ "__name__" := by decide) (hdb : (x == ("__debug__" : Str)) = false := by decide) (he : ∀ i0, starEach (e :: es) (X i0).env = (false, eval e (X i0).env) :: starEach es (X i0).env := by intro _; rfl) (hpl : ∀ i0, (backTo pos (starEach es (X i0).env)).any (·.1) = false := by intro _; rfl) :
    YD X T K cl (.Call (.Name x p) (e :: es) [] pos) (yA f m) := by
  obtain ⟨t, p1, l⟩ := ha
  exact ⟨_, fun i0 => pe_callTy (hc i0) (hg i0) (hm i0) hv (p1 i0) hn hdb (he i0) (hpl i0), ey_cb hf l⟩
end
/-! ### defs over a store -/
inductive YRes where
  | val (w : W)
  | exc (n : Str)
def startY (nl : Nat) (ws : List W) : YF := ws.map some ++ List.replicate (nl - ws.length) none
def runY (np nl : Nat) (m : YM YO) (ws : List W) (μ : Sto) : Option (W × Sto) := if ws.length = np then (m (startY nl ws) μ).bind fun p => match p.1 with
  | .rt w => some (w, p.2)
  | .nx _ => some (.da .none, p.2)
  | _ => none
  else none
def runYX (np nl : Nat) (m : YM YO) (ws : List W) (μ : Sto) : Option (YRes × Sto) := if ws.length = np then (m (startY nl ws) μ).bind fun p => match p.1 with
  | .rt w => some (.val w, p.2)
  | .nx _ => some (.val (.da .none), p.2)
  | .ex n _ => some (.exc n, p.2)
  | _ => none
  else none
abbrev YFun := List W → Sto → Option (W × Sto)
abbrev YFunX := List W → Sto → Option (YRes × Sto)
def spY (T : List (Addr × Str)) (K : PySem.W.Frag) (cl : Cf) (g : YFun) : Sp := fun vs H Q _ => ∃ (F : Hp) (κ : List Addr) (ws : List W) (μ : Sto) (w : W) (μ' : Sto), Sub T F H ∧ StOk K cl F H κ μ ∧ RWs K F κ vs ws ∧ g ws μ = some (w, μ') ∧
  ∀ v F' H' κ', Mov T F H κ F' H' κ' → StOk K cl F' H' κ' μ' → RW K F' κ' v w → Q v H'
def spYX (T : List (Addr × Str)) (K : PySem.W.Frag) (cl : Cf) (g : YFunX) : Sp := fun vs H Q E => ∃ (F : Hp) (κ : List Addr) (ws : List W) (μ : Sto) (r : YRes) (μ' : Sto), Sub T F H ∧ StOk K cl F H κ μ ∧ RWs K F κ vs ws ∧ g ws μ = some (r, μ') ∧
  (∀ w, r = .val w → ∀ v F' H' κ', Mov T F H κ F' H' κ' → StOk K cl F' H' κ' μ' → RW K F' κ' v w → Q v H') ∧
  (∀ n, r = .exc n → ∀ F' H' κ', Mov T F H κ F' H' κ' → StOk K cl F' H' κ' μ' → E (.ref (cl.ex n)) none H')
theorem startY_state {T : List (Addr × Str)} {K : PySem.W.Frag} {cl : Cf} {F H : Hp} {κ : List Addr} {μ : Sto} {N : List Str} {vs : List V} {ws : List W} (s : Sub T F H) (st : StOk K cl F H κ μ) (r : RWs K F κ vs ws) : MS T K cl F H κ (L2.start N vs) F H κ (startY N.length ws) μ := by
  refine ⟨Mov.refl s, st, by unfold startY L2.start; simp [pr_len r], fun i w h => ?_⟩
  unfold startY at h
  by_cases hi : i < ws.length
  · rw [List.getElem?_append_left (by simpa using hi), List.getElem?_map] at h
    obtain ⟨e, he⟩ := some_at hi
    rw [he] at h
    cases h
    obtain ⟨v, hv, rv⟩ := pr_get r he
    refine ⟨v, ?_, rv⟩
    unfold L2.start
    rw [List.getElem?_append_left (by rw [List.length_map, pr_len r]; exact hi), List.getElem?_map, hv]
    rfl
  · rw [List.getElem?_append_right (by simpa using hi), List.getElem?_replicate] at h
    split at h <;> cases h
section
variable {P : Program} {w : World} {T : List (Addr × Str)} {K : PySem.W.Frag} {mg : Str → Option Value} {base : Heap} {cl : Cf}
theorem fnY {x qual : Str} {st : Stmt} {f : Addr} {fd : FuncData} {N ps : List Str} {k : Nat} {m : YM YO} (F : Fun K x qual st f fd) (S : FnScope N ps (defScope st))
    (hb : ∀ (cdv : Value) (A : Around) (outer : List Env) (s : Shared) (H : Hp) (E : XK), Room k (A.deeper (envOfC qual (defScope st) s.heap.objs.size f cdv)) → YSs (fun _ : Unit => (cxOf CX0 P w K mg base N qual (defScope st) f cdv A outer s H E).nox) T K cl W0 (defBody st) m) :
    FnOk P w K mg base CX0 (k + 1) f fd ps (spY T K cl (runY ps.length N.length m)) := by
  refine F.ok S (fun vs H Q E h => ?_) (fun cdv A outer s H vs Q E hr h => ?_)
  · obtain ⟨F0, κ, ws, μ, w, μ', s0, st0, r, e, _⟩ := h
    unfold runY at e
    split at e
    · rename_i hz
      rw [pr_len r]; exact hz
    · cases e
  · obtain ⟨F0, κ, ws, μ, w, μ', s0, st0, r, e, q⟩ := h
    obtain ⟨t, p, l⟩ := hb cdv A outer s H E hr
    refine ⟨t, p (), ?_⟩
    unfold runY at e
    split at e
    · obtain ⟨⟨o, μ1⟩, e1, e2⟩ := Option.bind_eq_some_iff.mp e
      refine l F0 H κ _ F0 H κ _ μ o μ1 _ (startY_state s0 st0 r) e1 ?_
      cases o with
      | rt d' => cases e2; exact fun v F1 H1 κ1 g1 s1 r1 => q v F1 H1 κ1 g1 s1 r1
      | nx ρ => cases e2; exact fun σ F1 H1 κ1 S1 _ => q .non F1 H1 κ1 S1.g S1.st (.da .non)
      | bk ρ => cases e2
      | ct ρ => cases e2
      | ex n ρ => cases e2
    · cases e
theorem fnYX {x qual : Str} {st : Stmt} {f : Addr} {fd : FuncData} {N ps : List Str} {k : Nat} {m : YM YO} (F : Fun K x qual st f fd) (S : FnScope N ps (defScope st))
    (hb : ∀ (cdv : Value) (A : Around) (outer : List Env) (s : Shared) (H : Hp) (E : XK), Room k (A.deeper (envOfC qual (defScope st) s.heap.objs.size f cdv)) →
      L2N.Takes (cxOf (L2N.CX P w) P w K mg base N qual (defScope st) f cdv A outer s H E) (WU cl.ex fun n _ H' => E (.ref (cl.ex n)) none H') →
      YSs (fun _ : Unit => (cxOf (L2N.CX P w) P w K mg base N qual (defScope st) f cdv A outer s H E)) T K cl (fun n _ H' => E (.ref (cl.ex n)) none H') (defBody st) m) :
    FnOk P w K mg base (L2N.CX P w) (k + 1) f fd ps (spYX T K cl (runYX ps.length N.length m)) := by
  obtain ⟨⟨oc, od, kV, doc, pm, an, cdv, ct, osl, e1, e2, e3⟩, kp⟩ := F
  subst e1
  refine L2.fn_of (CX := L2N.CX P w) e2 e3 S (fun vs H Q E h => ?_) (fun A outer s H vs Q E hr h => ?_)
  · obtain ⟨F0, κ, ws, μ, r', μ', s0, st0, r, e, _⟩ := h
    unfold runYX at e
    split at e
    · rename_i hz
      rw [pr_len r]; exact hz
    · cases e
  · obtain ⟨F0, κ, ws, μ, r', μ', s0, st0, r, e, q1, q2⟩ := h
    have tk : L2N.Takes (cxOf (L2N.CX P w) P w K mg base N qual (defScope st) f cdv A outer s H E) (WU cl.ex fun n _ H' => E (.ref (cl.ex n)) none H') :=
      takesN_imp (L2N.takes_of (E := E) rfl rfl rfl rfl) fun c d σ H' ⟨n, e1, e2, h⟩ => by subst e1 e2; exact h
    obtain ⟨t, p, l⟩ := hb cdv A outer s H E hr tk
    refine ⟨t, p (), ?_⟩
    unfold runYX at e
    split at e
    · obtain ⟨⟨o, μ1⟩, e1, e2⟩ := Option.bind_eq_some_iff.mp e
      refine l F0 H κ _ F0 H κ _ μ o μ1 _ (startY_state s0 st0 r) e1 ?_
      cases o with
      | rt d' => cases e2; exact fun v F1 H1 κ1 g1 s1 r1 => q1 _ rfl v F1 H1 κ1 g1 s1 r1
      | nx ρ => cases e2; exact fun σ F1 H1 κ1 S1 _ => q1 _ rfl .non F1 H1 κ1 S1.g S1.st (.da .non)
      | bk ρ => cases e2
      | ct ρ => cases e2
      | ex n ρ => cases e2; exact fun σ F1 H1 κ1 S1 _ => q2 n rfl F1 H1 κ1 S1.g S1.st
    · cases e
end
/-! ### calls -/
def yCall (g : YFun) (m : YM (List W)) : YM W := fun ρ μ => (m ρ μ).bind fun p => g p.1 p.2
def yVal (g : YFunX) : YFun := fun ws μ => (g ws μ).bind fun p => match p.1 with
  | .val w => some (w, p.2)
  | .exc _ => none
/-- a def of data; cells among its arguments are seen as data -/
def yCallD (g : List D → Option D) (m : YM (List W)) : YM W := fun ρ μ => (m ρ μ).bind fun p => match allDa p.1 with
  | some ds => (g ds).map fun d => (.da d, p.2)
  | none => (allO (dat p.2 6) p.1).bind fun ds => (g ds).bind fun d => if hard d = true then some (.da d, p.2) else none
def yMeth (c : Nat) (g : YFun) (o : YM W) (m : YM (List W)) : YM W := fun ρ μ => (o ρ μ).bind fun p => match p.1 with
  | .rf n => match p.2[n]? with
    | some (.ins c' _) => if c' = c then (m ρ p.2).bind fun q => g (.rf n :: q.1) q.2 else none
    | _ => none
  | _ => none
def yMake (c : Nat) (g : YFun) (m : YM (List W)) : YM W := fun ρ μ => (m ρ μ).bind fun p => (g (.rf p.2.length :: p.1) (p.2 ++ [.ins c []])).bind fun q => match q.1 with
  | .da .none => some (.rf p.2.length, q.2)
  | _ => none
section
variable {ι : Type} {T : List (Addr × Str)} {K : PySem.W.Frag} {cl : Cf} {Wx : WN} {X : ι → Cx} {j : Nat} {f : Addr} {fd : FuncData} {ps : List Str} {x : Str} {e : Expr} {es : List Expr} {m : YM (List W)} {p pos : Pos}
theorem yd_call {g : YFun} (G : ∀ i0, FnOk (X i0).prog (X i0).w K (X i0).mg (X i0).base CX0 j f fd ps (spY T K cl g)) (hr : ∀ i0, Room j (X i0).A) (hm : ∀ i0, (X i0).mg x = some (.ref f)) (hk : PySem.W.keepIn K (.ref f) = true) (hb : Binds K fd ps [])
    (ha : YA X T K cl (e :: es) m) (hg : ∀ i0, Gl (X i0) x := by intro _; rfl) (hdb : (x == ("__debug__" : Str)) = false := by decide) (he : ∀ i0, starEach (e :: es) (X i0).env = (false, eval e (X i0).env) :: starEach es (X i0).env := by intro _; rfl) (hpl : ∀ i0, (backTo pos (starEach es (X i0).env)).any (·.1) = false := by intro _; rfl) (k : ∀ i0, (X i0).K = K := by intro _; rfl) :
    YD X T K cl (.Call (.Name x p) (e :: es) [] pos) (yCall g m) := by
  obtain ⟨t, p1, l⟩ := ha
  refine ⟨tCall (spY T K cl g) [] E0 t, fun i0 => by have e := k i0; subst e; exact pe_call (G i0) (hr i0) (hg i0) (hm i0) hk hb .nil pass0 (p1 i0) hdb (he i0) (hpl i0), ?_⟩
  intro F0 H0 κ0 σ F H κ ρ μ w μ' S h Q q
  unfold yCall at h
  obtain ⟨⟨ws, μ1⟩, e1, h1⟩ := Option.bind_eq_some_iff.mp h
  refine l F0 H0 κ0 σ F H κ ρ μ ws μ1 S e1 _ fun vs F1 H1 κ1 m1 s1 r1 => ?_
  exact ⟨F1, κ1, ws, μ1, w, μ', m1.s, s1, by rw [List.append_nil]; exact r1, h1, fun v F2 H2 κ2 m2 s2 r2 => q v F2 H2 κ2 (m1.trans m2) s2 r2⟩
theorem yd_callV {g : YFunX} (G : ∀ i0, FnOk (X i0).prog (X i0).w K (X i0).mg (X i0).base (L2N.CX (X i0).prog (X i0).w) j f fd ps (spYX T K cl g)) (hr : ∀ i0, Room j (X i0).A) (hm : ∀ i0, (X i0).mg x = some (.ref f)) (hk : PySem.W.keepIn K (.ref f) = true) (hb : Binds K fd ps [])
    (ha : YA X T K cl (e :: es) m) (hg : ∀ i0, Gl (X i0) x := by intro _; rfl) (hdb : (x == ("__debug__" : Str)) = false := by decide) (he : ∀ i0, starEach (e :: es) (X i0).env = (false, eval e (X i0).env) :: starEach es (X i0).env := by intro _; rfl) (hpl : ∀ i0, (backTo pos (starEach es (X i0).env)).any (·.1) = false := by intro _; rfl) (k : ∀ i0, (X i0).K = K := by intro _; rfl) :
    YD X T K cl (.Call (.Name x p) (e :: es) [] pos) (yCall (yVal g) m) := by
  obtain ⟨t, p1, l⟩ := ha
  refine ⟨tCall (spYX T K cl g) [] E0 t, fun i0 => by have e := k i0; subst e; exact pe_call (G i0) (hr i0) (hg i0) (hm i0) hk hb .nil passN (p1 i0) hdb (he i0) (hpl i0), ?_⟩
  intro F0 H0 κ0 σ F H κ ρ μ w μ' S h Q q
  unfold yCall at h
  obtain ⟨⟨ws, μ1⟩, e1, h1⟩ := Option.bind_eq_some_iff.mp h
  unfold yVal at h1
  obtain ⟨⟨r, μ2⟩, e2, h2⟩ := Option.bind_eq_some_iff.mp h1
  refine l F0 H0 κ0 σ F H κ ρ μ ws μ1 S e1 _ fun vs F1 H1 κ1 m1 s1 r1 => ?_
  cases r with
  | exc n => cases h2
  | val w' =>
    cases h2
    exact ⟨F1, κ1, ws, μ1, _, _, m1.s, s1, by rw [List.append_nil]; exact r1, e2, fun w e v F2 H2 κ2 m2 s2 r2 => by cases e; exact q v F2 H2 κ2 (m1.trans m2) s2 r2, fun n e => by cases e⟩
/-- data of data, over a frame of Md -/
theorem shown_rws {F H : Hp} {κ : List Addr} {μ : Sto} (S : StOk K cl F H κ μ) : ∀ {vs : List V} {ws : List W} {ds : List D}, RWs K F κ vs ws → allO (dat μ 6) ws = some ds → RpAll K (shF μ κ F H) vs ds := fun r h => allO_rp (fun hv e => dat_rp S 6 hv e) r h
theorem yd_callD {g : List D → Option D} (G : ∀ i0, FnOk (X i0).prog (X i0).w K (X i0).mg (X i0).base CX0 j f fd ps (spD T K g)) (hr : ∀ i0, Room j (X i0).A) (hm : ∀ i0, (X i0).mg x = some (.ref f)) (hk : PySem.W.keepIn K (.ref f) = true) (hb : Binds K fd ps [])
    (ha : YA X T K cl (e :: es) m) (hg : ∀ i0, Gl (X i0) x := by intro _; rfl) (hdb : (x == ("__debug__" : Str)) = false := by decide) (he : ∀ i0, starEach (e :: es) (X i0).env = (false, eval e (X i0).env) :: starEach es (X i0).env := by intro _; rfl) (hpl : ∀ i0, (backTo pos (starEach es (X i0).env)).any (·.1) = false := by intro _; rfl) (k : ∀ i0, (X i0).K = K := by intro _; rfl) :
    YD X T K cl (.Call (.Name x p) (e :: es) [] pos) (yCallD g m) := by
  obtain ⟨t, p1, l⟩ := ha
  refine ⟨tCall (spD T K g) [] E0 t, fun i0 => by have e := k i0; subst e; exact pe_call (G i0) (hr i0) (hg i0) (hm i0) hk hb .nil pass0 (p1 i0) hdb (he i0) (hpl i0), ?_⟩
  intro F0 H0 κ0 σ F H κ ρ μ w μ' S h Q q
  unfold yCallD at h
  obtain ⟨⟨ws, μ1⟩, e1, h1⟩ := Option.bind_eq_some_iff.mp h
  clear h
  refine l F0 H0 κ0 σ F H κ ρ μ ws μ1 S e1 _ fun vs F1 H1 κ1 m1 s1 r1 => ?_
  simp only at h1
  split at h1
  · rename_i ds e2
    obtain ⟨d, e3, h2⟩ := Option.map_eq_some_iff.mp h1
    cases h2
    exact ⟨F1, ds, d, m1.s, by rw [List.append_nil]; exact allDa_rp r1 e2, e3, fun v F2 H2 g2 r2 => q v F2 H2 κ1 (m1.trans (.of g2)) (s1.grow m1.s g2) (.da r2)⟩
  · obtain ⟨ds, e2, h2⟩ := Option.bind_eq_some_iff.mp h1
    obtain ⟨d, e3, h3⟩ := Option.bind_eq_some_iff.mp h2
    split at h3
    · rename_i hd
      cases h3
      refine ⟨shF _ κ1 F1 H1, ds, d, shF_sub s1 m1.s, by rw [List.append_nil]; exact shown_rws s1 r1 e2, e3, fun v F2 H2 g2 r2 => ?_⟩
      have g' := unF_grow s1 m1.s g2
      exact q v _ H2 κ1 (m1.trans (.of g')) (s1.grow m1.s g') (.da (unF_rp s1 g2 hd r2))
    · cases h3
/-- a def of data that may raise, where it doesn't -/
theorem yd_callDV {g : List D → Option Pd.Res} (G : ∀ i0, FnOk (X i0).prog (X i0).w K (X i0).mg (X i0).base (L2N.CX (X i0).prog (X i0).w) j f fd ps (spX T K cl.ex g)) (hr : ∀ i0, Room j (X i0).A) (hm : ∀ i0, (X i0).mg x = some (.ref f)) (hk : PySem.W.keepIn K (.ref f) = true) (hb : Binds K fd ps [])
    (ha : YA X T K cl (e :: es) m) (hg : ∀ i0, Gl (X i0) x := by intro _; rfl) (hdb : (x == ("__debug__" : Str)) = false := by decide) (he : ∀ i0, starEach (e :: es) (X i0).env = (false, eval e (X i0).env) :: starEach es (X i0).env := by intro _; rfl) (hpl : ∀ i0, (backTo pos (starEach es (X i0).env)).any (·.1) = false := by intro _; rfl) (k : ∀ i0, (X i0).K = K := by intro _; rfl) :
    YD X T K cl (.Call (.Name x p) (e :: es) [] pos) (yCallD (mVal g) m) := by
  obtain ⟨t, p1, l⟩ := ha
  refine ⟨tCall (spX T K cl.ex g) [] E0 t, fun i0 => by have e := k i0; subst e; exact pe_call (G i0) (hr i0) (hg i0) (hm i0) hk hb .nil passN (p1 i0) hdb (he i0) (hpl i0), ?_⟩
  intro F0 H0 κ0 σ F H κ ρ μ w μ' S h Q q
  unfold yCallD at h
  obtain ⟨⟨ws, μ1⟩, e1, h1⟩ := Option.bind_eq_some_iff.mp h
  clear h
  have val : ∀ {ds d}, mVal g ds = some d → g ds = some (.val d) := fun {ds d} hh => by
    unfold mVal at hh
    obtain ⟨r, e, hh⟩ := Option.bind_eq_some_iff.mp hh
    cases r with
    | val d' => cases hh; exact e
    | exc n => cases hh
  refine l F0 H0 κ0 σ F H κ ρ μ ws μ1 S e1 _ fun vs F1 H1 κ1 m1 s1 r1 => ?_
  simp only at h1
  split at h1
  · rename_i ds e2
    obtain ⟨d, e3, h2⟩ := Option.map_eq_some_iff.mp h1
    cases h2
    exact ⟨F1, ds, .val d, m1.s, by rw [List.append_nil]; exact allDa_rp r1 e2, val e3, fun d e v F2 H2 g2 r2 => by cases e; exact q v F2 H2 κ1 (m1.trans (.of g2)) (s1.grow m1.s g2) (.da r2), fun n e => by cases e⟩
  · obtain ⟨ds, e2, h2⟩ := Option.bind_eq_some_iff.mp h1
    obtain ⟨d, e3, h3⟩ := Option.bind_eq_some_iff.mp h2
    split at h3
    · rename_i hd
      cases h3
      refine ⟨shF _ κ1 F1 H1, ds, .val d, shF_sub s1 m1.s, by rw [List.append_nil]; exact shown_rws s1 r1 e2, val e3, fun d' e v F2 H2 g2 r2 => ?_, fun n e => by cases e⟩
      cases e
      have g' := unF_grow s1 m1.s g2
      exact q v _ H2 κ1 (m1.trans (.of g')) (s1.grow m1.s g') (.da (unF_rp s1 g2 hd r2))
    · cases h3
/-! ### methods -/
theorem ey_meth {c : Nat} {g : YFun} {name : Str} {to : TE} {ta : TA} {o : YM W} {sp : Sp} {E : XK} (hsp : ∀ vs H Q, spY T K cl g vs H Q E → sp vs H Q E) (C : ClsF K cl c) (hn : ∀ f ∈ cl.nm c, f ≠ name) (l : EY T K cl to o) (l2 : AY T K cl ta m) : EY T K cl (tMeth (cl.ad c) name sp [] E to ta) (yMeth c g o m) := by
  intro F0 H0 κ0 σ F H κ ρ μ w μ' S h Q q
  unfold yMeth at h
  obtain ⟨⟨x, μ1⟩, e1, h1⟩ := Option.bind_eq_some_iff.mp h
  clear h
  refine l F0 H0 κ0 σ F H κ ρ μ x μ1 S e1 _ fun v F1 H1 κ1 m1 s1 r1 => ?_
  clear e1
  cases r1 with
  | da r1 => cases h1
  | rf e2 =>
    rename_i n a0
    simp only at h1
    split at h1
    · rename_i c' ws0 e3
      split at h1
      · rename_i ec
        subst ec
        obtain ⟨⟨ws, μ2⟩, e4, h2⟩ := Option.bind_eq_some_iff.mp h1
        obtain ⟨dx, vs, a1, a2, a3, a4, a5⟩ := s1.ok _ _ _ e3 e2
        have hl : vs.length = ws0.length := by have := pr_len a5; rwa [List.length_map] at this
        refine ⟨a0, dx, vs, rfl, a1, ?_, ?_⟩
        · have : ∀ (l : List (Str × V)), (∀ p ∈ l, p.1 ≠ name) → l.lookup name = none := by
            intro l
            induction l with
            | nil => intro _; rfl
            | cons p r ih =>
              intro h
              rw [List.lookup_cons, show (name == p.1) = false from beq_eq_false_iff_ne.mpr (Ne.symm (h p List.mem_cons_self))]
              exact ih fun q hq => h q (List.mem_cons_of_mem _ hq)
          refine this vs fun p hp => hn p.1 ?_
          have : p.1 ∈ vs.map (·.1) := List.mem_map_of_mem hp
          rw [a3] at this
          exact List.mem_of_mem_take this
        · refine l2 F0 H0 κ0 σ F1 H1 κ1 ρ μ1 ws μ2 (S.move m1 s1) e4 _ fun us F2 H2 κ2 m2 s2 r2 => ?_
          refine hsp _ _ _ ⟨F2, κ2, .rf n :: ws, μ2, w, μ', m2.s, s2, ?_, h2, fun v F3 H3 κ3 m3 s3 r3 => q v F3 H3 κ3 ((m1.trans m2).trans m3) s3 r3⟩
          rw [List.append_nil]
          exact .cons (.rf (m2.at e2)) r2
      · cases h1
    · cases h1
variable {o : Expr} {mo : YM W} {apos : Pos} {name : Str}
theorem spY_of_X {g : YFunX} {E : XK} {vs : List V} {H : Hp} {Q : VK} (h : spY T K cl (yVal g) vs H Q E) : spYX T K cl g vs H Q E := by
  obtain ⟨F, κ, ws, μ, w, μ', h1, h2, h3, h4, h5⟩ := h
  unfold yVal at h4
  obtain ⟨⟨r, μ2⟩, e2, h6⟩ := Option.bind_eq_some_iff.mp h4
  cases r with
  | exc n => cases h6
  | val w' =>
    cases h6
    exact ⟨F, κ, ws, μ, _, _, h1, h2, h3, e2, fun w e => by cases e; exact h5, fun n e => by cases e⟩
theorem yd_meth {g : YFun} {pl : Sem Bool} (c : Nat) (C : ClsF K cl c) (hM : Meth K (cl.ad c) name f) (G : ∀ i0, FnOk (X i0).prog (X i0).w K (X i0).mg (X i0).base CX0 j f fd ps (spY T K cl g)) (hr : ∀ i0, Room j (X i0).A) (hb : Binds K fd ps []) (hn : ∀ f ∈ cl.nm c, f ≠ name) (ho : YD X T K cl o mo) (ha : YA X T K cl (e :: es) m)
    (hst : ∀ i0, starEach (e :: es) (X i0).env = (false, eval e (X i0).env) :: starEach es (X i0).env := by intro _; rfl) (hpl : ∀ i0, (backTo pos (starEach es (X i0).env)).any (·.1) = false := by intro _; rfl)
    (ht : ∀ i0, eval (.Call (.Attribute o name apos) (e :: es) [] pos) (X i0).env = (do
      let ov ← eval o (X i0).env
      standAt apos.atName
      let (f, first) ← holding [ov] (getMethod ov name pl)
      callWith pos f first (backTo pos (starEach (e :: es) (X i0).env)) (backToKw pos (keywordEach [] (X i0).env))) := by intro _; rfl) (k : ∀ i0, (X i0).K = K := by intro _; rfl) :
    YD X T K cl (.Call (.Attribute o name apos) (e :: es) [] pos) (yMeth c g mo m) := by
  obtain ⟨t, p1, l⟩ := ho
  obtain ⟨u, p2, l2⟩ := ha
  exact ⟨tMeth (cl.ad c) name (spY T K cl g) [] E0 t u, fun i0 => by have e := k i0; subst e; exact pe_meth (p1 i0) C.cls hM (G i0) (hr i0) hb .nil pass0 (p2 i0) (hst i0) (hpl i0) (ht i0), ey_meth (fun _ _ _ h => h) C hn l l2⟩
theorem yd_meth0 {g : YFun} {pl : Sem Bool} (c : Nat) (C : ClsF K cl c) (hM : Meth K (cl.ad c) name f) (G : ∀ i0, FnOk (X i0).prog (X i0).w K (X i0).mg (X i0).base CX0 j f fd ps (spY T K cl g)) (hr : ∀ i0, Room j (X i0).A) (hb : Binds K fd ps []) (hn : ∀ f ∈ cl.nm c, f ≠ name) (ho : YD X T K cl o mo)
    (ht : ∀ i0, eval (.Call (.Attribute o name apos) [] [] pos) (X i0).env = (do
      let ov ← eval o (X i0).env
      standAt apos.atName
      let (f, first) ← holding [ov] (getMethod ov name pl)
      callWith pos f first (backTo pos (starEach [] (X i0).env)) (backToKw pos (keywordEach [] (X i0).env))) := by intro _; rfl) (k : ∀ i0, (X i0).K = K := by intro _; rfl) :
    YD X T K cl (.Call (.Attribute o name apos) [] [] pos) (yMeth c g mo yNil) := by
  obtain ⟨t, p1, l⟩ := ho
  exact ⟨tMeth (cl.ad c) name (spY T K cl g) [] E0 t tNil, fun i0 => by have e := k i0; subst e; exact pe_meth0 (p1 i0) C.cls hM (G i0) (hr i0) hb .nil pass0 (ht i0), ey_meth (fun _ _ _ h => h) C hn l ay_nil⟩
theorem yd_methV {g : YFunX} {pl : Sem Bool} (c : Nat) (C : ClsF K cl c) (hM : Meth K (cl.ad c) name f) (G : ∀ i0, FnOk (X i0).prog (X i0).w K (X i0).mg (X i0).base (L2N.CX (X i0).prog (X i0).w) j f fd ps (spYX T K cl g)) (hr : ∀ i0, Room j (X i0).A) (hb : Binds K fd ps []) (hn : ∀ f ∈ cl.nm c, f ≠ name) (ho : YD X T K cl o mo) (ha : YA X T K cl (e :: es) m)
    (hst : ∀ i0, starEach (e :: es) (X i0).env = (false, eval e (X i0).env) :: starEach es (X i0).env := by intro _; rfl) (hpl : ∀ i0, (backTo pos (starEach es (X i0).env)).any (·.1) = false := by intro _; rfl)
    (ht : ∀ i0, eval (.Call (.Attribute o name apos) (e :: es) [] pos) (X i0).env = (do
      let ov ← eval o (X i0).env
      standAt apos.atName
      let (f, first) ← holding [ov] (getMethod ov name pl)
      callWith pos f first (backTo pos (starEach (e :: es) (X i0).env)) (backToKw pos (keywordEach [] (X i0).env))) := by intro _; rfl) (k : ∀ i0, (X i0).K = K := by intro _; rfl) :
    YD X T K cl (.Call (.Attribute o name apos) (e :: es) [] pos) (yMeth c (yVal g) mo m) := by
  obtain ⟨t, p1, l⟩ := ho
  obtain ⟨u, p2, l2⟩ := ha
  exact ⟨tMeth (cl.ad c) name (spYX T K cl g) [] E0 t u, fun i0 => by have e := k i0; subst e; exact pe_meth (p1 i0) C.cls hM (G i0) (hr i0) hb .nil passN (p2 i0) (hst i0) (hpl i0) (ht i0), ey_meth (fun _ _ _ h => spY_of_X h) C hn l l2⟩
/-! ### constructors -/
theorem make_new {F H : Hp} {κ : List Addr} {μ : Sto} {c : Nat} {x dx : Addr} (S : StOk K cl F H κ μ) (s : Sub T F H) (hx : H x = Option.none) (hd : H dx = Option.none) (ne : dx ≠ x) :
    Mov T F H κ F (upd (upd H dx (.own x)) x (.ins (cl.ad c) dx [])) (κ ++ [x]) ∧ StOk K cl F (upd (upd H dx (.own x)) x (.ins (cl.ad c) dx [])) (κ ++ [x]) (μ ++ [.ins c []]) ∧ RW K F (κ ++ [x]) (.ref x) (.rf μ.length) := by
  have dk : dx ∉ κ := fun z => by
    obtain ⟨o, e, _⟩ := S.mem s z
    rw [hd] at e; cases e
  have g1 : Grow T F H F (upd H dx (.own x)) := Grow.mine s hd
  have hx' : upd H dx (.own x) x = Option.none := by rw [upd_ne (Ne.symm ne)]; exact hx
  obtain ⟨m2, s2, r2⟩ := new_cell (c := .ins c []) (S.put (o := .own x) dk) g1.s hx' (o := .ins (cl.ad c) dx []) ⟨dx, [], upd_same, s.same.free hx, rfl, Nat.zero_le _, .nil⟩
  exact ⟨(Mov.of g1).trans m2, s2, r2⟩
theorem yd_make {g : YFun} (c : Nat) (M : Mk K (cl.ad c) f) (G : ∀ i0, FnOk (X i0).prog (X i0).w K (X i0).mg (X i0).base CX0 j f fd ps (spY T K cl g)) (hr : ∀ i0, Room (j + 1) (X i0).A) (hm : ∀ i0, (X i0).mg x = some (.ref (cl.ad c))) (hb : Binds K fd ps [])
    (ha : YA X T K cl (e :: es) m) (hg : ∀ i0, Gl (X i0) x := by intro _; rfl) (hdb : (x == ("__debug__" : Str)) = false := by decide) (he : ∀ i0, starEach (e :: es) (X i0).env = (false, eval e (X i0).env) :: starEach es (X i0).env := by intro _; rfl) (hpl : ∀ i0, (backTo pos (starEach es (X i0).env)).any (·.1) = false := by intro _; rfl) (k : ∀ i0, (X i0).K = K := by intro _; rfl) :
    YD X T K cl (.Call (.Name x p) (e :: es) [] pos) (yMake c g m) := by
  obtain ⟨t, p1, l⟩ := ha
  refine ⟨tMake (cl.ad c) (spY T K cl g) [] E0 t, fun i0 => by have e := k i0; subst e; exact pe_make M (G i0) (hr i0) (hg i0) (hm i0) hb .nil pass0 (p1 i0) hdb (he i0) (hpl i0), ?_⟩
  intro F0 H0 κ0 σ F H κ ρ μ w μ' S h Q q
  unfold yMake at h
  obtain ⟨⟨ws, μ1⟩, e1, h1⟩ := Option.bind_eq_some_iff.mp h
  obtain ⟨⟨w2, μ2⟩, e2, h2⟩ := Option.bind_eq_some_iff.mp h1
  refine l F0 H0 κ0 σ F H κ ρ μ ws μ1 S e1 _ fun vs F1 H1 κ1 m1 s1 r1 y dx hx hd ne => ?_
  obtain ⟨m2, s2, r2⟩ := make_new (c := c) s1 m1.s hx hd ne
  refine ⟨F1, κ1 ++ [y], .rf μ1.length :: ws, _, w2, μ2, m2.s, s2, ?_, e2, fun v F3 H3 κ3 m3 s3 r3 => ?_⟩
  · rw [List.append_nil]
    exact .cons r2 (pr_imp (fun _ _ h => RW.mono (Same.refl F1) h) r1)
  · simp only at h2
    split at h2
    · cases h2
      cases r3 with
      | da r3 => cases r3; exact ⟨rfl, q _ F3 H3 κ3 ((m1.trans m2).trans m3) s3 (m3.rw r2)⟩
    · cases h2
theorem yd_make0 {g : YFun} (c : Nat) (M : Mk K (cl.ad c) f) (G : ∀ i0, FnOk (X i0).prog (X i0).w K (X i0).mg (X i0).base CX0 j f fd ps (spY T K cl g)) (hr : ∀ i0, Room (j + 1) (X i0).A) (hm : ∀ i0, (X i0).mg x = some (.ref (cl.ad c))) (hb : Binds K fd ps [])
    (hg : ∀ i0, Gl (X i0) x := by intro _; rfl) (hdb : (x == ("__debug__" : Str)) = false := by decide) (k : ∀ i0, (X i0).K = K := by intro _; rfl) :
    YD X T K cl (.Call (.Name x p) [] [] pos) (yMake c g yNil) := by
  refine ⟨tMake (cl.ad c) (spY T K cl g) [] E0 tNil, fun i0 => by have e := k i0; subst e; exact pe_make0 M (G i0) (hr i0) (hg i0) (hm i0) hb .nil pass0 hdb, ?_⟩
  intro F0 H0 κ0 σ F H κ ρ μ w μ' S h Q q
  unfold yMake at h
  obtain ⟨⟨ws, μ1⟩, e1, h1⟩ := Option.bind_eq_some_iff.mp h
  obtain ⟨⟨w2, μ2⟩, e2, h2⟩ := Option.bind_eq_some_iff.mp h1
  cases e1
  intro y dx hx hd ne
  obtain ⟨m2, s2, r2⟩ := make_new (c := c) S.st S.s hx hd ne
  refine ⟨F, κ ++ [y], [.rf μ.length], _, w2, μ2, m2.s, s2, .cons r2 .nil, e2, fun v F3 H3 κ3 m3 s3 r3 => ?_⟩
  simp only at h2
  split at h2
  · cases h2
    cases r3 with
    | da r3 => cases r3; exact ⟨rfl, q _ F3 H3 κ3 (m2.trans m3) s3 (m3.rw r2)⟩
  · cases h2
end
/-! ### the law's end -/
section
variable {P : Program} {w : World} {T : List (Addr × Str)} {K : PySem.W.Frag} {mg : Str → Option Value} {base : Heap} {cl : Cf}
open Classical in
theorem end_okY {f : Addr} {fd : FuncData} {ps : List Str} {k n : Nat} {g : YFun} (F : FnOk P w K mg base CX0 k f fd ps (spY T K cl g))
    (h : ∀ ns : List Int, ns.length ≤ n → (∀ z ∈ ns, Builtin.Int.intBits z ≤ 1048576) → ∃ μ', g [.da (.list (ns.map .int))] [] = some (.da (.bool true), μ')) : FnOk P w K mg base CX0 k f fd ps (spEnd T K n) := by
  refine F.imp fun vs H Q E ⟨a, ns, e, hs, hl, hb, ht, q⟩ => ?_
  subst e
  let F0 : Hp := fun b => if ∃ ps, H b = some (.tbl ps) then none else H b
  have s0 : Sub T F0 H := by
    refine ⟨fun b o e => ?_, fun b ps e => ?_, ht⟩
    · have e' : (if ∃ ps, H b = some (.tbl ps) then none else H b) = some o := e
      split at e'
      · cases e'
      · exact e'
    · have e' : (if ∃ ps, H b = some (.tbl ps) then none else H b) = some (.tbl ps) := e
      split at e'
      · cases e'
      · rename_i hx
        exact hx ⟨ps, e'⟩
  have keep : ∀ {b : Addr} {o : HO}, H b = some o → (∀ ps, o ≠ .tbl ps) → F0 b = some o := fun {b o} e n => by
    show (if ∃ ps, H b = some (.tbl ps) then none else H b) = some o
    rw [if_neg]
    · exact e
    · rintro ⟨ps, z⟩
      rw [e] at z
      exact n ps (Option.some.inj z)
  have hs0 : SqL K F0 a (ns.map V.int) := by
    rcases hs with (h | ⟨o, h⟩) | h
    · exact .inl (.inl (keep h fun ps z => by cases z))
    · exact .inl (.inr ⟨o, keep h fun ps z => by cases z⟩)
    · exact .inr h
  have allI : ∀ l : List Int, RpAll K F0 (l.map V.int) (l.map PyData.int) := by
    intro l
    induction l with
    | nil => exact .nil
    | cons i l ih => exact .cons (.int i) ih
  obtain ⟨μ', e⟩ := h ns hl hb
  refine ⟨F0, [], [.da (.list (ns.map .int))], [], .da (.bool true), μ', s0, ⟨rfl, .nil, fun n c a e => by simp at e⟩, .cons (.da (.lst hs0 (allI ns))) .nil, e, fun v F' H' κ' m' s' r => ?_⟩
  cases r with
  | da r => cases r; exact q H'
end
end Md

/-! Dq1: the deque's methods, at the library's level. -/
namespace Dq
open PySem PySem.Spec PyProof.Rows
theorem slot_append : PySem.Slot "collections.deque" "append" "collections.deque.append" :=
  .of (owner := "collections.deque") (n := "append") (by rw [typeLookup_type, builtinLookup_eq_fast]; kernel_rfl) (by decide +kernel) (by decide +kernel) (by decide +kernel)
    (by first | exact .inl (by decide +kernel) | exact .inr (by decide +kernel)) (by rw [isSubtype_type]; kernel_rfl)
theorem slot_popleft : PySem.Slot "collections.deque" "popleft" "collections.deque.popleft" :=
  .of (owner := "collections.deque") (n := "popleft") (by rw [typeLookup_type, builtinLookup_eq_fast]; kernel_rfl) (by decide +kernel) (by decide +kernel) (by decide +kernel)
    (by first | exact .inl (by decide +kernel) | exact .inr (by decide +kernel)) (by rw [isSubtype_type]; kernel_rfl)
theorem slot_iter : PySem.Slot "collections.deque" "__iter__" "collections.deque.__iter__" :=
  .of (owner := "collections.deque") (n := "__iter__") (by rw [typeLookup_type, builtinLookup_eq_fast]; kernel_rfl) (by decide +kernel) (by decide +kernel) (by decide +kernel)
    (by first | exact .inl (by decide +kernel) | exact .inr (by decide +kernel)) (by rw [isSubtype_type]; kernel_rfl)
theorem slot_next : PySem.Slot "collections._deque_iterator" "__next__" "collections._deque_iterator.__next__" :=
  .of (owner := "collections._deque_iterator") (n := "__next__") (by rw [typeLookup_type, builtinLookup_eq_fast]; kernel_rfl) (by decide +kernel) (by decide +kernel) (by decide +kernel)
    (by first | exact .inl (by decide +kernel) | exact .inr (by decide +kernel)) (by rw [isSubtype_type]; kernel_rfl)
theorem slot_iiter : PySem.Slot "collections._deque_iterator" "__iter__" "collections._deque_iterator.__iter__" :=
  .of (owner := "collections._deque_iterator") (n := "__iter__") (by rw [typeLookup_type, builtinLookup_eq_fast]; kernel_rfl) (by decide +kernel) (by decide +kernel) (by decide +kernel)
    (by first | exact .inl (by decide +kernel) | exact .inr (by decide +kernel)) (by rw [isSubtype_type]; kernel_rfl)
theorem type_append : typeOf (.builtin "collections.deque.append") = pure (.type "method_descriptor") := by first | kernel_rfl | rfl
theorem type_popleft : typeOf (.builtin "collections.deque.popleft") = pure (.type "method_descriptor") := by first | kernel_rfl | rfl
theorem plainAttrs : PlainAttrs "collections.deque" :=
  ⟨⟨"collections.deque.__getattribute__", by rw [typeLookup_type, builtinLookup_eq_fast]; kernel_rfl, by decide +kernel⟩, by rw [typeLookup_type, builtinLookup_eq_fast]; kernel_rfl⟩
theorem entry_append : entryFor table "collections.deque.append" = some Builtin.«collections.deque.append» := entryFor_of_tree (by kernel_rfl)
theorem entry_popleft : entryFor table "collections.deque.popleft" = some Builtin.«collections.deque.popleft» := entryFor_of_tree (by kernel_rfl)
theorem entry_iter : entryFor table "collections.deque.__iter__" = some Builtin.«collections.deque.__iter__» := entryFor_of_tree (by kernel_rfl)
theorem entry_next : entryFor table "collections._deque_iterator.__next__" = some Builtin.«collections._deque_iterator.__next__» := entryFor_of_tree (by kernel_rfl)
theorem args_append (a b : Value) : argsOk "collections.deque.append" ⟨[a, b], []⟩ := by unfold argsOk; kernel_rfl
theorem args_popleft (a : Value) : argsOk "collections.deque.popleft" ⟨[a], []⟩ := by unfold argsOk; kernel_rfl
theorem args_iter (a : Value) : argsOk "collections.deque.__iter__" ⟨[a], []⟩ := by unfold argsOk; kernel_rfl
theorem args_next (a : Value) : argsOk "collections._deque_iterator.__next__" ⟨[a], []⟩ := by unfold argsOk; kernel_rfl
theorem args_iiter (a : Value) : argsOk "collections._deque_iterator.__iter__" ⟨[a], []⟩ := by unfold argsOk; kernel_rfl
/-- the record of a deque: no bound, its changes, its items -/
def dqV (n : Int) (us : Array Value) : Array Value := #[Value.none, rawInt n] ++ us
abbrev dqO (n : Int) (us : Array Value) : Obj := recObj "collections.deque" (dqV n us)
theorem dqV_0 (n : Int) (us : Array Value) : (dqV n us)[0]? = some Value.none := by
  unfold dqV
  rw [Array.getElem?_append_left (by show 0 < 2; decide)]
  rfl
theorem dqV_1 (n : Int) (us : Array Value) : (dqV n us)[1]? = some (rawInt n) := by
  unfold dqV
  rw [Array.getElem?_append_left (by show 1 < 2; decide)]
  rfl
theorem dqV_size (n : Int) (us : Array Value) : (dqV n us).size = us.size + 2 := by unfold dqV; rw [Array.size_append]; show 2 + us.size = _; omega
theorem dqV_items (n : Int) (us : Array Value) : (dqV n us).extract 2 (dqV n us).size = us := by
  rw [dqV_size]
  unfold dqV
  apply Array.ext'
  rw [Array.toList_extract, Array.toList_append]
  simp [List.extract]
  exact List.take_of_length_le (Nat.le_of_eq Array.length_toList)
section
variable {prog : Program} {w : World} {A : Around} {E : Value → Shared → Prop} {s : Shared} {a : Addr} {n : Int} {us : Array Value}
theorem items_run {Q : Array Value → Shared → Prop} (h : s.heap.get? a = some (dqO n us)) (q : Q us s) : wpAny (model prog w) A (Builtin.Deque.items (.ref a)) Q E s := by
  unfold Builtin.Deque.items
  refine wpAny_bind (wpAny_fieldsOf h rfl (wpAny_pure ?_))
  rw [dqV_items]
  exact q
theorem size_run {Q : Nat → Shared → Prop} (h : s.heap.get? a = some (dqO n us)) (q : Q us.size s) : wpAny (model prog w) A (Builtin.Deque.size (.ref a)) Q E s := by
  unfold Builtin.Deque.size
  refine wpAny_bind (wpAny_fieldsOf h rfl (wpAny_pure ?_))
  rw [dqV_size, Nat.add_sub_cancel]
  exact q
theorem state_run {Q : Int → Shared → Prop} (h : s.heap.get? a = some (dqO n us)) (q : Q n s) : wpAny (model prog w) A (Builtin.Deque.state (.ref a)) Q E s := by
  unfold Builtin.Deque.state
  refine wpAny_bind (wpAny_field h rfl (x := rawInt n) (dqV_1 n us) ?_)
  exact wpAny_pure q
theorem maxlen_run {Q : Option Nat → Shared → Prop} (h : s.heap.get? a = some (dqO n us)) (q : Q none s) : wpAny (model prog w) A (Builtin.Deque.maxlen (.ref a)) Q E s := by
  unfold Builtin.Deque.maxlen
  refine wpAny_bind (wpAny_field h rfl (x := Value.none) (dqV_0 n us) ?_)
  exact wpAny_pure q
theorem change_run {f : Array Value → Array Value} {Q : Unit → Shared → Prop} (h : s.heap.get? a = some (dqO n us)) (hz : (f us).size ≤ sizeLine) (q : ∀ h', h'.get? a = some (dqO (n + 1) (f us)) → Heap.SameBut a s.heap h' → Q () { s with heap := h' }) :
    wpAny (model prog w) A (Builtin.Deque.change (.ref a) f) Q E s := by
  unfold Builtin.Deque.change
  refine wpAny_bind (m := Builtin.Deque.state (.ref a)) (state_run h ?_)
  have e : (#[(dqV n us).getD 0 .none, rawInt (if true = true then n + 1 else n)] ++ f ((dqV n us).extract 2 (dqV n us).size)) = dqV (n + 1) (f us) := by
    rw [dqV_items]
    have : (dqV n us).getD 0 Value.none = Value.none := by rw [Array.getD_eq_getD_getElem?, dqV_0]; rfl
    rw [this]
    rfl
  refine wpAny_updateFields h rfl ?_ ?_
  · refine q _ ?_ (Heap.SameBut.update ..)
    have z := Heap.get?_update_self (Obj.mapFields fun vs => #[vs.getD 0 .none, rawInt (if true = true then n + 1 else n)] ++ f (vs.extract 2 vs.size)) h rfl
    refine z.trans ?_
    show some (recObj "collections.deque" _) = some (recObj "collections.deque" _)
    exact congrArg (fun v => some (recObj "collections.deque" v)) e
  · rw [e, dqV_size]; omega
theorem append_run {x : Value} {Q : Value → Shared → Prop} (h : s.heap.get? a = some (dqO n us)) (hz : us.size < sizeLine) (q : ∀ h', h'.get? a = some (dqO (n + 1) (us.push x)) → Heap.SameBut a s.heap h' → Q .none { s with heap := h' }) :
    wpAny (model prog w) A (call (.builtin "collections.deque.append") [.ref a, x]) Q E s := by
  refine wpAny_call_entry slot_append ⟨_, h, rfl⟩ entry_append ?_ (args_append _ _)
  unfold Builtin.«collections.deque.append»
  refine wpAny_bind (wpAny_of_eq (a := (Value.ref a, x)) rfl ?_)
  show wpAny _ _ (Builtin.Deque.pushRight (.ref a) x >>= fun _ => ret .none) _ _ _
  refine wpAny_bind ?_
  unfold Builtin.Deque.pushRight
  refine wpAny_bind (change_run h (by rw [Array.size_push]; omega) fun h' e sb => ?_)
  refine wpAny_bind (maxlen_run (s := { s with heap := h' }) e ?_)
  exact wpAny_pure (wpAny_pure ⟨_, rfl, q h' e sb⟩)
theorem popleft_run {x : Value} {Q : Value → Shared → Prop} (h : s.heap.get? a = some (dqO n us)) (hz : us.size ≤ sizeLine) (hx : us[0]? = some x) (q : ∀ h', h'.get? a = some (dqO (n + 1) (us.eraseIdxIfInBounds 0)) → Heap.SameBut a s.heap h' → Q x { s with heap := h' }) :
    wpAny (model prog w) A (call (.builtin "collections.deque.popleft") [.ref a]) Q E s := by
  refine wpAny_call_entry slot_popleft ⟨_, h, rfl⟩ entry_popleft ?_ (args_popleft _)
  unfold Builtin.«collections.deque.popleft»
  refine wpAny_bind (wpAny_of_eq (a := Value.ref a) rfl ?_)
  refine wpAny_bind (items_run h ?_)
  rw [hx]
  show wpAny _ _ (Builtin.Deque.change (.ref a) (·.eraseIdxIfInBounds 0) >>= fun _ => ret x) _ _ _
  refine wpAny_bind (change_run h ?_ fun h' e sb => ?_)
  · have h0 : 0 < us.size := (Array.getElem?_eq_some_iff.mp hx).1
    unfold Array.eraseIdxIfInBounds
    rw [dif_pos h0, Array.size_eraseIdx]; omega
  · exact wpAny_pure ⟨_, rfl, q h' e sb⟩
/-! ### its iterator -/
def itV (d : Addr) (i n left : Int) : Array Value := #[.ref d, rawInt i, rawInt n, rawInt left]
abbrev itO (d : Addr) (i n left : Int) : Obj := recObj "collections._deque_iterator" (itV d i n left)
theorem iter_run {Q : Value → Shared → Prop} (h : s.heap.get? a = some (dqO n us)) (q : Q (.ref s.heap.objs.size) { s with heap := s.heap.push (itO a 0 n us.size) }) : wpAny (model prog w) A (pyIter (.ref a)) Q E s := by
  refine wpAny_pyIter_slot ⟨_, h, rfl⟩ slot_iter (wpAny_call_entry slot_iter ⟨_, h, rfl⟩ entry_iter ?_ (args_iter _))
  unfold Builtin.«collections.deque.__iter__»
  refine wpAny_bind (wpAny_of_eq (a := (Value.ref a, [])) rfl ?_)
  refine wpAny_bind (m := Builtin.Deque.state (.ref a)) (state_run h ?_)
  refine wpAny_bind (m := Builtin.Deque.size (.ref a)) (size_run h ?_)
  refine wpAny_bind ?_
  show wpAny _ _ (newObj (.type "collections._deque_iterator") (.fields (itV a 0 n us.size))) _ _ _
  refine wpAny_newObj_type ?_ (by show (4 : Nat) ≤ sizeLine + 2; decide)
  exact wpAny_pure ⟨_, rfl, "collections._deque_iterator", _, ⟨_, Heap.get?_push_size _ rfl, rfl⟩, slot_next.lookup, q⟩
theorem set_it {it d : Addr} {i n left j : Int} {k : Nat} {Q : Unit → Shared → Prop} (h : s.heap.get? it = some (itO d i n left)) (hk : k < 4) (q : ∀ h', h'.get? it = some (recObj "collections._deque_iterator" ((itV d i n left).setIfInBounds k (rawInt j))) → Heap.SameBut it s.heap h' → Q () { s with heap := h' }) :
    wpAny (model prog w) A (setField (.ref it) k (rawInt j)) Q E s := wpAny_setField_rec h hk q
theorem next_item {it d : Addr} {i : Nat} {x : Value} {Q : Option Value → Shared → Prop} (hit : s.heap.get? it = some (itO d i n ((us.size : Int) - (i : Nat)))) (hd : s.heap.get? d = some (dqO n us)) (hx : us[i]? = some x)
    (q : ∀ h', h'.get? it = some (itO d ((i + 1 : Nat) : Int) n ((us.size : Int) - ((i + 1 : Nat) : Int))) → Heap.SameBut it s.heap h' → Q (some x) { s with heap := h' }) : wpAny (model prog w) A (pyNext (.ref it)) Q E s := by
  have hi : i < us.size := (Array.getElem?_eq_some_iff.mp hx).1
  unfold pyNext
  refine wpAny_bind (wpAny_attempt (wpAny_callSpecial?_slot (name := Str.ofString "__next__") ⟨_, hit, rfl⟩ slot_next
    (wpAny_call_entry slot_next ⟨_, hit, rfl⟩ entry_next ?_ (args_next _))))
  unfold Builtin.«collections._deque_iterator.__next__» Builtin.DequeIter.next
  refine wpAny_bind (wpAny_of_eq (a := (Value.ref it, [])) rfl ?_)
  refine wpAny_bind ?_
  unfold Builtin.DequeIter.advance
  refine wpAny_bind (wpAny_field hit rfl (x := .ref d) rfl ?_)
  rw [if_neg (by decide)]
  refine wpAny_bind (m := Builtin.Deque.state (.ref d)) (state_run hd ?_)
  refine wpAny_bind (m := Builtin.DequeIter.raw (.ref it) 2) ?_
  unfold Builtin.DequeIter.raw
  refine wpAny_bind (wpAny_field hit rfl (x := rawInt n) rfl (wpAny_pure ?_))
  rw [if_neg (by simp)]
  refine wpAny_bind ?_
  refine wpAny_bind (wpAny_field hit rfl (x := rawInt ((us.size : Int) - (i : Nat))) rfl (wpAny_pure ?_))
  rw [if_neg (by simp; omega)]
  refine wpAny_bind ?_
  refine wpAny_bind (wpAny_field hit rfl (x := rawInt (i : Nat)) rfl (wpAny_pure ?_))
  refine wpAny_bind (m := Builtin.Deque.items (.ref d)) (items_run hd ?_)
  rw [show us[((i : Nat) : Int).toNat]? = some x from by rw [Int.toNat_natCast]; exact hx]
  show wpAny _ _ (setField (.ref it) 1 (rawInt ((i : Int) + 1)) >>= fun _ => setField (.ref it) 3 (rawInt ((us.size : Int) - (i : Nat) - 1)) >>= fun _ => pure (some x)) _ _ _
  refine wpAny_bind (set_it hit (by decide) fun h1 e1 sb1 => ?_)
  have e1' : h1.get? it = some (itO d ((i : Int) + 1) n ((us.size : Int) - (i : Nat))) := e1
  refine wpAny_bind (set_it (s := { s with heap := h1 }) e1' (by decide) fun h2 e2 sb2 => ?_)
  refine wpAny_pure ?_
  refine wpAny_pure ⟨x, rfl, ?_⟩
  refine wpAny_pure (q h2 ?_ ⟨?_, fun b hb => (sb2.2 b hb).trans (sb1.2 b hb)⟩)
  · refine e2.trans ?_
    have : (us.size : Int) - (i : Nat) - 1 = (us.size : Int) - ((i + 1 : Nat) : Int) := by omega
    rw [this]
    rfl
  · exact sb2.1.trans sb1.1
end
end Dq

/-! Dq2: the deque's iterator at its end; list(deque). -/
namespace Dq
open PySem PySem.Spec PyProof.Rows
theorem entry_iiter : entryFor table "collections._deque_iterator.__iter__" = some Builtin.«dict_keyiterator.__iter__» :=
  entryFor_alias (id' := "dict_keyiterator.__iter__") (by kernel_rfl) (by first | rfl | decide +kernel | (unfold String.splitOn; simp +decide [String.splitOnAux])) (by decide +kernel) (by kernel_rfl)
section
variable {prog : Program} {w : World} {A : Around} {E : Value → Shared → Prop} {s : Shared} {a : Addr} {n : Int} {us : Array Value}
theorem next_end {it d : Addr} {i : Int} {Q : Option Value → Shared → Prop} (hh : A.handled = none) (hit : s.heap.get? it = some (itO d i n 0)) (hd : s.heap.get? d = some (dqO n us))
    (hQ : ∀ h', (∀ b o, s.heap.get? b = some o → h'.get? b = some o) → Q none { s with heap := h' }) : wpAny (model prog w) A (pyNext (.ref it)) Q E s := by
  unfold pyNext
  refine wpAny_bind (wpAny_attempt (wpAny_callSpecial?_slot (name := Str.ofString "__next__") ⟨_, hit, rfl⟩ slot_next
    (wpAny_call_entry slot_next ⟨_, hit, rfl⟩ entry_next ?_ (args_next _))))
  unfold Builtin.«collections._deque_iterator.__next__» Builtin.DequeIter.next
  refine wpAny_bind (wpAny_of_eq (a := (Value.ref it, [])) rfl ?_)
  refine wpAny_bind ?_
  unfold Builtin.DequeIter.advance
  refine wpAny_bind (wpAny_field hit rfl (x := .ref d) rfl ?_)
  rw [if_neg (by decide)]
  refine wpAny_bind (m := Builtin.Deque.state (.ref d)) (state_run hd ?_)
  refine wpAny_bind (m := Builtin.DequeIter.raw (.ref it) 2) ?_
  unfold Builtin.DequeIter.raw
  refine wpAny_bind (wpAny_field hit rfl (x := rawInt n) rfl (wpAny_pure ?_))
  rw [if_neg (by simp)]
  refine wpAny_bind ?_
  refine wpAny_bind (wpAny_field hit rfl (x := rawInt 0) rfl (wpAny_pure ?_))
  rw [if_pos (by decide)]
  refine wpAny_pure ?_
  show wpAny _ _ (newExc (.type "StopIteration") [] >>= _) _ _ _
  refine wpAny_bind ?_
  simp only [newExc, newTuple]
  refine wpAny_bind (wpAny_newObj_type ?_ (by size_fits))
  refine wpAny_bind (m := firstArgMember _ _) (wpAny_of_eq (a := Value.none) (by first | rfl | (simp only [firstArgMember]; rfl)) ?_)
  refine wpAny_newObj_type ?_ (by size_fits)
  simp only [raiseNew]
  refine wpAny_bind (wpAny_handled ?_)
  first | rw [show A.in1.handled = none from hh] | rw [hh]
  refine wpAny_bind (wpAny_pure (wpAny_throw ?_))
  refine wpAny_bind (wpAny_isInstance (T := "StopIteration") (b := true) ⟨_, Heap.get?_push_size _ rfl, rfl⟩ isSubtype_stop ?_)
  refine wpAny_pure (hQ _ ?_)
  exact fun b ob e => Heap.get?_push_of_some _ (Heap.get?_push_of_some _ e)
theorem iter_self {it d : Addr} {i left : Int} {Q : Value → Shared → Prop} (hit : s.heap.get? it = some (itO d i n left)) (h : Q (.ref it) s) : wpAny (model prog w) A (pyIter (.ref it)) Q E s := by
  refine wpAny_pyIter_slot ⟨_, hit, rfl⟩ slot_iiter (wpAny_call_entry slot_iiter ⟨_, hit, rfl⟩ entry_iiter ?_ (args_iiter _))
  show wpAny _ _ (ret (.ref it)) _ _ s
  exact wpAny_pure ⟨_, rfl, "collections._deque_iterator", _, ⟨_, hit, rfl⟩, slot_next.lookup, h⟩
theorem walks (hh : A.handled = none) (it d : Addr) (n : Int) (us : Array Value) (ne : d ≠ it) : Walks prog w A it [it, d] [it] us.size (fun i v => us[i]? = some v) (fun i h => h.get? it = some (itO d (i : Nat) n ((us.size : Int) - (i : Nat))) ∧ h.get? d = some (dqO n us)) where
  sub := by simp
  frame := fun i h h' st k => ⟨k it (by simp) _ st.1, k d (by simp) _ st.2⟩
  item := fun i s Q E hi st k => by
    obtain ⟨x, hx⟩ : ∃ x, us[i]? = some x := ⟨us[i], Array.getElem?_eq_getElem hi⟩
    refine next_item st.1 st.2 hx fun h' e sb => ?_
    exact k x h' s.toks hx ⟨e, (sb.2 d ne).trans st.2⟩ fun b o hb e => (sb.2 b (by simpa using hb)).trans e
  done := fun s Q E st k => by
    have e : (us.size : Int) - (us.size : Nat) = 0 := by omega
    rw [e] at st
    exact next_end hh st.1 st.2 fun h' kk => k h' s.toks fun b o _ e => kk b o e
  self := fun i s Q E st k => iter_self st.1 k
theorem len_run {Q : Value → Shared → Prop} (h : s.heap.get? a = some (dqO n us)) (q : Q (.int us.size s.toks) { s with toks := s.toks + 1 }) : wpAny (model prog w) A (call (.builtin "collections.deque.__len__") [.ref a]) Q E s := by
  refine wpAny_call_entry F.dq_slot_len ⟨_, h, rfl⟩ F.dq_entry_len ?_ (F.dq_args_len _)
  show wpAny _ _ (Builtin.Deque.size (.ref a) >>= fun k => retInt k) _ _ s
  refine wpAny_bind (size_run h ?_)
  exact wpAny_bind (wpAny_mkInt (wpAny_pure ⟨_, rfl, q⟩))
theorem call_len {Q : Value → Shared → Prop} (h : s.heap.get? a = some (dqO n us)) (hz : us.size ≤ sizeLine) (q : Q (.int us.size (s.toks + 1)) { s with toks := s.toks + 1 + 1 }) : wpAny (model prog w) A (call (.builtin "len") [.ref a]) Q E s := by
  have hs : sizeLine = 16777216 := by decide
  exact PyProof.Rows.call_len_slot (n := us.size) ⟨_, h, rfl⟩ F.dq_slot_len (fun Q' hq => len_run h hq) (by omega) (by omega) q
theorem hint_run {Q : Bool → Shared → Prop} (h : s.heap.get? a = some (dqO n us)) (hz : us.size ≤ sizeLine) (q : Q ((us.size : Int) != 0) { s with toks := s.toks + 1 + 1 }) : wpAny (model prog w) A (Builtin.List.listLengthHint (.ref a)) Q E s := by
  unfold Builtin.List.listLengthHint
  refine wpAny_bind (wpAny_specialOf ⟨_, h, rfl⟩ F.dq_slot_len.lookup ?_)
  generalize hid : ("collections.deque.__len__" : String) = id0
  wp_delta
  rw [show splitId id0 = some ("collections.deque", "__len__") from by subst hid; decide +kernel]
  subst hid
  refine wpAny_bind (wpAny_isInstance (T := "collections.deque") (b := true) ⟨_, h, rfl⟩ (by rw [isSubtype_type]; kernel_rfl) ?_)
  refine wpAny_ite_split (fun hab => absurd hab (by decide)) (fun _ => ?_)
  refine wpAny_ite_split (fun hab => absurd hab (by decide +kernel)) (fun _ => ?_)
  refine wpAny_ite_split (fun _ => ?_) (fun hab => absurd rfl hab)
  refine wpAny_bind (wpAny_rule ?_)
  refine wpAny_bind (wpAny_attempt (call_len h hz ?_))
  have htl : Builtin.List.listTooLong ((us.size : Int).toNat) = false := by simp [Builtin.List.listTooLong]; omega
  refine wpAny_bind (m := asInt? _) (wpAny_pure ?_)
  exact wpAny_ite_split (fun hab => absurd hab (by rw [htl]; decide)) (fun _ => wpAny_pure q)
theorem extend_run {R : Result → Shared → Prop} (hh : A.handled = none) (h : s.heap.get? a = some (dqO n us)) (hz : us.size ≤ sizeLine) (S : Addr) (res : Value) (c₀ : Nat) (hS : s.heap.get? S = some { cls := .type "list", data := .seq #[] c₀ })
    (hR : ∀ h' tk acc' c', (∀ b o, b ≠ S → s.heap.get? b = some o → h'.get? b = some o) → h'.get? S = some { cls := .type "list", dict := none, data := .seq acc' c', slots := #[] } →
      ItemsOf (fun i v => us[i]? = some v) acc' us.size → R (.ok (.ret res)) { s with heap := h', toks := tk }) :
    wpAny (model prog w) A.in1 (Builtin.List.listExtendWith (.ref S) (.ref a) res)
      (fun fin s' => match fin with | .done f => R (.ok f) s' | .again c' => c'.quiet = true ∧ codeAny (model prog w) A c' R s') (fun e s' => R (.error e) s') s := by
  have hSr : S ≠ a := fun e => by rw [e, h] at hS; exact absurd (congrArg Obj.cls (Option.some.inj hS)) (by show ¬ (Value.type "collections.deque" = Value.type "list"); decide)
  have hSlt : S < s.heap.objs.size := Heap.lt_size hS
  have hSI : S ≠ s.heap.objs.size := Nat.ne_of_lt hSlt
  have hal : a < s.heap.objs.size := Heap.lt_size h
  have haI : a ≠ s.heap.objs.size := Nat.ne_of_lt hal
  have hSf : S ∉ [s.heap.objs.size, a] := fun hm => by
    rcases List.mem_cons.mp hm with e | e
    · exact hSI e
    · exact hSr (List.mem_singleton.mp e)
  have W := (walks (prog := prog) (w := w) (A := A.in1) hh s.heap.objs.size a n us haI).toS
  have key : ∀ (h' : Heap) (c₁ tk : Nat), h'.get? s.heap.objs.size = some (itO a ((0 : Nat) : Int) n ((us.size : Int) - ((0 : Nat) : Int))) ∧ h'.get? a = some (dqO n us) → (∀ b o, b ≠ S → s.heap.get? b = some o → h'.get? b = some o) →
      h'.get? S = some { cls := .type "list", data := .seq #[] c₁ } → codeAny (model prog w) A (.builtin "list.extend.loop" ⟨[.ref S, .ref s.heap.objs.size, res], []⟩) R { s with heap := h', toks := tk } := by
    intro h' c₁ tk hit hk hS₁
    refine codeAny_extend_loopS W hz S hSf res us.size 0 _ #[] c₁ rfl (Nat.zero_le _) hit hS₁ (ItemsOf.nil _) fun s' acc' c' hm hS' hacc => ?_
    rw [Moved.eq_with hm]
    refine hR s'.heap s'.toks acc' c' (fun b o hb e => hm.heap b o (fun hmem => ?_) (hk b o hb e)) hS' hacc
    rcases List.mem_cons.mp hmem with e' | hmem
    · exact hb e'
    · exact absurd (Heap.lt_size e) (by rw [List.mem_singleton.mp hmem]; exact Nat.lt_irrefl _)
  unfold Builtin.List.listExtendWith
  refine wpAny_bind (wpAny_typeOf (T := "collections.deque") ⟨_, h, rfl⟩ ?_)
  have h1 : Builtin.List.listSameRef (.ref S) (.ref a) = false := by simp [Builtin.List.listSameRef, hSr]
  have h2 : (Value.type "collections.deque" == Value.type "list") = false := by decide
  have h3 : (Value.type "collections.deque" == Value.type "tuple") = false := by decide
  simp only [h1, h2, h3, Bool.or_false, Bool.false_eq_true, if_false]
  refine wpAny_bind (iter_run h ?_)
  refine wpAny_bind (wpAny_holding (hint_run (Heap.get?_push_of_some _ h) hz ?_))
  have hit₁ : (s.heap.push (itO a 0 n us.size)).get? s.heap.objs.size = some (itO a ((0 : Nat) : Int) n ((us.size : Int) - ((0 : Nat) : Int))) ∧ (s.heap.push (itO a 0 n us.size)).get? a = some (dqO n us) :=
    ⟨by simpa using Heap.get?_push_size _ rfl, Heap.get?_push_of_some _ h⟩
  have hS₁ := Heap.get?_push_of_some (itO a 0 n us.size) hS
  refine wpAny_ite_split (fun _ => ?_) (fun _ => wpAny_pure ⟨plainId_quiet F.plain_extend_loop _, key _ c₀ _ hit₁ (fun b o _ e => Heap.get?_push_of_some _ e) hS₁⟩)
  refine wpAny_bind (wpAny_rule ?_)
  refine wpAny_bind ?_
  show wpAny _ _ (updateSeq S (·.push .none) >>= fun _ => updateSeq S (·.pop)) _ _ _
  refine wpAny_bind (wpAny_updateSeq hS₁ rfl ?_)
  have hS₂ := Heap.get?_update_self (Obj.mapSeq (·.push Value.none)) hS₁ rfl
  refine wpAny_updateSeq (hz := by seq_fits) hS₂ rfl ?_
  have hS₃ := Heap.get?_update_self (Obj.mapSeq (·.pop)) hS₂ rfl
  refine wpAny_pure ⟨plainId_quiet F.plain_extend_loop _, key _ _ _ ⟨?_, ?_⟩ (fun b o hb e => ?_) hS₃⟩
  · exact (Heap.get?_update_other _ _ hSI).trans ((Heap.get?_update_other _ _ hSI).trans hit₁.1)
  · exact (Heap.get?_update_other _ _ hSr).trans ((Heap.get?_update_other _ _ hSr).trans hit₁.2)
  · exact (Heap.get?_update_other _ _ (Ne.symm hb)).trans ((Heap.get?_update_other _ _ (Ne.symm hb)).trans (Heap.get?_push_of_some _ e))
theorem list_init_run {R : Result → Shared → Prop} (hh : A.handled = none) (h : s.heap.get? a = some (dqO n us)) (hz : us.size ≤ sizeLine) (S : Addr) (hS : s.heap.get? S = some { cls := .type "list", data := .seq #[] })
    (hR : ∀ h' tk acc' c', (∀ b o, b ≠ S → s.heap.get? b = some o → h'.get? b = some o) → h'.get? S = some { cls := .type "list", dict := none, data := .seq acc' c', slots := #[] } →
      ItemsOf (fun i v => us[i]? = some v) acc' us.size → R (.ok (.ret .none)) { s with heap := h', toks := tk }) :
    wpAny (model prog w) A.in1 (Builtin.«list.__init__» ⟨[.ref S, .ref a], []⟩)
      (fun fin s' => match fin with | .done f => R (.ok f) s' | .again c' => c'.quiet = true ∧ codeAny (model prog w) A c' R s') (fun e s' => R (.error e) s') s := by
  have hSr : S ≠ a := fun e => by rw [e, h] at hS; exact absurd (congrArg Obj.cls (Option.some.inj hS)) (by show ¬ (Value.type "collections.deque" = Value.type "list"); decide)
  show wpAny _ _ (do let old ← Builtin.List.listItems (.ref S); Builtin.List.listUpdate (.ref S) (fun _ => #[]); letGo old.toList.reverse; Builtin.List.listExtendWith (.ref S) (.ref a) .none) _ _ s
  refine wpAny_bind ?_
  unfold Builtin.List.listItems
  refine wpAny_bind (wpAny_seqItems hS rfl (wpAny_pure ?_))
  show wpAny _ _ (updateSeq S (fun _ => #[]) >>= fun _ => letGo (#[] : Array Value).toList.reverse >>= fun _ => Builtin.List.listExtendWith (.ref S) (.ref a) .none) _ _ s
  refine wpAny_bind (wpAny_updateSeq hS rfl ?_)
  have hS₂ := Heap.get?_update_self (Obj.mapSeq (fun _ => (#[] : Array Value))) hS rfl
  have oth : ∀ b o, b ≠ S → s.heap.get? b = some o → (s.heap.update S (Obj.mapSeq (fun _ => (#[] : Array Value)))).get? b = some o :=
    fun b o hb e => (Heap.get?_update_other _ _ (Ne.symm hb)).trans e
  refine wpAny_bind (wpAny_letGo ?_)
  refine extend_run hh (oth a _ (Ne.symm hSr) h) hz S .none _ hS₂ fun h' tk acc' c' hk hS' hacc => ?_
  exact hR h' tk acc' c' (fun b o hb e => hk b o hb (oth b o hb e)) hS' hacc
theorem call_list {Q : Value → Shared → Prop} (hh : A.handled = none) (h : s.heap.get? a = some (dqO n us)) (hz : us.size ≤ sizeLine)
    (hQ : ∀ h' tk acc' c', (∀ b o, s.heap.get? b = some o → h'.get? b = some o) →
      h'.get? s.heap.objs.size = some { cls := .type "list", dict := none, data := .seq acc' c', slots := #[] } → ItemsOf (fun i v => us[i]? = some v) acc' us.size → Q (.ref s.heap.objs.size) { s with heap := h', toks := tk }) :
    wpAny (model prog w) A (call (.type "list") [.ref a]) Q E s := by
  refine callType_codes (Q₁ := fun obj s₁ => obj = .ref s.heap.objs.size ∧ s₁ = { s with heap := s.heap.push { cls := .type "list", data := .seq #[] } }) F.called_list (F.typeCall_list_1 _) F.entry_list_init
    (code_list_new _ ⟨rfl, rfl⟩) fun obj s₁ h₁ => ?_
  obtain ⟨rfl, rfl⟩ := h₁
  have hS : (s.heap.push { cls := .type "list", data := .seq #[] }).get? s.heap.objs.size = some { cls := .type "list", data := .seq #[] } := Heap.get?_push_size _ rfl
  refine ⟨⟨_, hS, rfl⟩, F.args_list_init_2 _ _, list_init_run (A := A.in1) hh (Heap.get?_push_of_some _ h) hz _ hS fun h' tk acc' c' hk hS' hacc => ?_⟩
  exact ⟨rfl, hQ h' tk acc' c' (fun b o e => hk b o (Nat.ne_of_lt (Heap.lt_size e)) (Heap.get?_push_of_some _ e)) hS' hacc⟩
end
end Dq

/-! Dq3: deque(list). -/
namespace Dq
open PySem PySem.Spec PyProof.Rows
theorem entry_extend : entryFor table "collections.deque.extend" = some Builtin.«collections.deque.extend» := entryFor_of_tree (by kernel_rfl)
theorem entry_eloop : entryFor table "collections.deque.extend.loop" = some Builtin.«collections.deque.extend.loop» := entryFor_of_tree (by kernel_rfl)
theorem plain_extend : plainId "collections.deque.extend" = true := by decide +kernel
theorem plain_eloop : plainId "collections.deque.extend.loop" = true := by decide +kernel
theorem typeCall1 (x : Value) : checkTypeCall "collections.deque" ⟨[x], []⟩ = pure () := by first | kernel_rfl | rfl
theorem newCall1 (x : Value) : checkBuiltinCall "collections.deque.__new__" ⟨[.type "collections.deque", x], []⟩ = pure () := by first | kernel_rfl | rfl
theorem args_init1 (a x : Value) : argsOk "collections.deque.__init__" ⟨[a, x], []⟩ := by unfold argsOk; kernel_rfl
section
variable {prog : Program} {w : World} {A : Around} {E : Value → Shared → Prop} {s : Shared} {d l : Addr}
theorem push_run {x : Value} {n : Int} {us : Array Value} {Q : Unit → Shared → Prop} (h : s.heap.get? d = some (dqO n us)) (hz : us.size < sizeLine) (q : ∀ h', h'.get? d = some (dqO (n + 1) (us.push x)) → Heap.SameBut d s.heap h' → Q () { s with heap := h' }) :
    wpAny (model prog w) A (Builtin.Deque.pushRight (.ref d) x) Q E s := by
  unfold Builtin.Deque.pushRight
  refine wpAny_bind (change_run h (by rw [Array.size_push]; omega) fun h' e sb => ?_)
  refine wpAny_bind (maxlen_run (s := { s with heap := h' }) e ?_)
  exact wpAny_pure (q h' e sb)
theorem loop_run {R : Result → Shared → Prop} {I : Addr} {fp wr : List Addr} {G : Array GenState → Array GenState → Prop} {m : Nat} {P : Nat → Value → Prop} {St : Nat → Shared → Prop} (W : WalksS prog w A.in1 I fp wr G m P St) (hm : m ≤ sizeLine) (hSf : d ∉ fp) :
    ∀ (k i : Nat) (s : Shared) (us : Array Value) (n : Int), m - i = k → i ≤ m → St i s → s.heap.get? d = some (dqO n us) → ItemsOf P us i →
    (∀ s' us', Moved (d :: wr) G s s' → s'.heap.get? d = some (dqO (n + ((m - i : Nat) : Int)) us') → ItemsOf P us' m → R (.ok (.ret .none)) s') →
    codeAny (model prog w) A (.builtin "collections.deque.extend.loop" ⟨[.ref d, .ref I, .none], []⟩) R s := by
  have hSw : d ∉ wr := fun h => hSf (W.sub _ h)
  have hsub : ∀ b ∈ wr, b ∈ d :: wr := fun b hb => List.mem_cons_of_mem _ hb
  intro k
  induction k with
  | zero =>
    intro i s us n hk hi hst hS hacc hR
    have hin : i = m := by omega
    subst hin
    refine codeAny_builtin entry_eloop ?_
    rw [Around.under_plainId plain_eloop _]
    unfold Builtin.«collections.deque.extend.loop»
    refine wpAny_bind (wpAny_pure ?_)
    refine wpAny_bind (W.done s _ _ hst fun s' hm => ?_)
    have e0 : n + ((i - i : Nat) : Int) = n := by rw [Nat.sub_self]; omega
    rw [e0] at hR
    exact wpAny_pure (hR s' us (hm.mono hsub) (hm.heap d _ hSw hS) hacc)
  | succ k ih =>
    intro i s us n hk hi hst hS hacc hR
    have hlt : i < m := by omega
    refine codeAny_builtin entry_eloop ?_
    rw [Around.under_plainId plain_eloop _]
    unfold Builtin.«collections.deque.extend.loop»
    refine wpAny_bind (wpAny_pure ?_)
    refine wpAny_bind (W.item i s _ _ hlt hst fun v s' hP hst' hm' => ?_)
    have hS' := hm'.heap d _ hSw hS
    refine wpAny_bind (wpAny_field hS' rfl (x := Value.none) (dqV_0 n us) ?_)
    rw [if_neg (by decide)]
    refine wpAny_bind (maxlen_run hS' ?_)
    rw [if_pos (by decide)]
    refine wpAny_bind (push_run hS' (by rw [hacc.1]; omega) fun h' e sb => ?_)
    refine wpAny_pure ⟨plainId_quiet plain_eloop _, ih (i + 1) _ (us.push v) (n + 1) (by omega) hlt (W.frame _ s' _ s'.toks hst' (Nat.le_refl _) fun b hb o eo => ?_) e (hacc.push hP) fun s'' us' hm'' hS'' hacc' => ?_⟩
    · exact (sb.2 b fun h => hSf (by rw [← h]; exact hb)).trans eo
    · have e1 : n + 1 + ((m - (i + 1) : Nat) : Int) = n + ((m - i : Nat) : Int) := by omega
      rw [e1] at hS''
      refine hR s'' us' (Moved.trans W.gtrans ((hm'.mono hsub).then_heap (Nat.le_refl _) fun b o hb eo => ?_) hm'') hS'' hacc'
      exact (sb.2 b fun h => hb (by rw [h]; exact List.mem_cons_self)).trans eo
theorem items_eq {P : Nat → Value → Prop} {items us : Array Value} (h : ItemsOf (fun i v => items[i]? = some v) us items.size) : us = items := by
  apply Array.ext
  · exact h.1
  · intro i h1 h2
    have : items[i]? = some us[i] := h.2 i us[i] (Array.getElem?_eq_getElem h1)
    rw [Array.getElem?_eq_getElem h2] at this
    exact (Option.some.inj this).symm
theorem ext_run {items : Array Value} {n : Int} {Q : Unit → Shared → Prop} (hh : A.handled = none) (h : s.heap.get? d = some (dqO n #[])) (hl : s.heap.IsList l items) (hz : items.size ≤ sizeLine) (ne : d ≠ l)
    (q : ∀ h' tk, h'.get? d = some (dqO (n + items.size) items) → (∀ b o, b ≠ d → s.heap.get? b = some o → h'.get? b = some o) → Q () { s with heap := h', toks := tk }) :
    wpAny (model prog w) A (Builtin.Deque.extend (.ref d) (.ref l)) Q E s := by
  have hdlt : d < s.heap.objs.size := Heap.lt_size h
  have hllt : l < s.heap.objs.size := by obtain ⟨o, ho, _⟩ := hl; exact Heap.lt_size ho
  have hdI : d ≠ s.heap.objs.size := Nat.ne_of_lt hdlt
  have hlI : l ≠ s.heap.objs.size := Nat.ne_of_lt hllt
  have hSf : d ∉ [s.heap.objs.size, l] := fun hm => by
    rcases List.mem_cons.mp hm with e | e
    · exact hdI e
    · exact ne (List.mem_singleton.mp e)
  have W := (Walks.list (prog := prog) (w := w) (A := A.in1) hh s.heap.objs.size l hlI items).toS
  unfold Builtin.Deque.extend
  refine wpAny_bind (wpAny_runValue (codeAny_builtin entry_extend ?_))
  rw [Around.under_plainId plain_extend _]
  unfold Builtin.«collections.deque.extend»
  refine wpAny_bind (wpAny_of_eq (a := (Value.ref d, Value.ref l)) rfl ?_)
  have hne : ¬ ((Value.ref d == Value.ref l) = true) := fun z => ne (Value.ref.inj (eq_of_beq z))
  dsimp only
  rw [if_neg hne]
  refine wpAny_bind (wpAny_field h rfl (x := Value.none) (dqV_0 n _) ?_)
  refine wpAny_bind (wpAny_pyIter_list hl ?_)
  refine wpAny_pure ⟨plainId_quiet plain_eloop _, loop_run W hz hSf items.size 0 _ #[] n rfl (Nat.zero_le _) ⟨⟨_, Heap.get?_push_size _ rfl, rfl, rfl⟩, hl.push _⟩ (Heap.get?_push_of_some _ h) (ItemsOf.nil _) fun s' us' hm hS' hacc => ?_⟩
  rw [Moved.eq_with hm]
  rw [items_eq (P := fun _ _ => True) hacc, Nat.sub_zero] at hS'
  refine wpAny_pure (q s'.heap s'.toks hS' fun b o hb e => hm.heap b o (fun hmem => ?_) (Heap.get?_push_of_some _ e))
  rcases List.mem_cons.mp hmem with e' | hmem
  · exact hb e'
  · exact absurd (Heap.lt_size e) (by rw [List.mem_singleton.mp hmem]; exact Nat.lt_irrefl _)
theorem code_new1 {x : Value} {Q₁ : Value → Shared → Prop} (h : Q₁ (.ref s.heap.objs.size) { s with heap := s.heap.push (recObj "collections.deque" dq0) }) :
    codeAny (model prog w) A (.call (.builtin "collections.deque.__new__") ⟨[.type "collections.deque", x], []⟩) (wants Q₁ E) s := by
  refine codeAny_call_builtin F.dq_plain_new F.dq_entry_new (wpAny_of_eq (newCall1 x) ?_)
  unfold Builtin.«collections.deque.__new__»
  refine wpAny_bind ?_
  unfold Builtin.Deque.newArgs
  refine wpAny_bind (wpAny_of_eq (a := true) rfl ?_)
  refine PySem.W.KFB.if_not rfl ?_
  refine wpAny_bind (wpAny_of_eq (a := true) F.dq_sub ?_)
  refine PySem.W.KFB.if_not rfl ?_
  refine wpAny_pure ?_
  refine wpAny_bind ?_
  unfold Builtin.Deque.new
  rw [if_neg (show ¬ (#[] : Array Value).size > sizeLine by decide)]
  refine wpAny_bind (wpAny_pure ?_)
  exact dq_made (wpAny_pure h)
theorem call1 {items : Array Value} {Q : Value → Shared → Prop} (hh : A.handled = none) (hl : s.heap.IsList l items) (hz : items.size ≤ sizeLine)
    (q : ∀ h' tk, h'.get? s.heap.objs.size = some (dqO items.size items) → (∀ b o, s.heap.get? b = some o → h'.get? b = some o) → Q (.ref s.heap.objs.size) { s with heap := h', toks := tk }) :
    wpAny (model prog w) A (call (.type "collections.deque") [.ref l]) Q E s := by
  have hllt : l < s.heap.objs.size := by obtain ⟨o, ho, _⟩ := hl; exact Heap.lt_size ho
  refine callType_codes (Q₁ := fun obj s₁ => obj = .ref s.heap.objs.size ∧ s₁ = { s with heap := s.heap.push (recObj "collections.deque" dq0) }) F.dq_called (typeCall1 _) F.dq_entry_init (code_new1 ⟨rfl, rfl⟩) ?_
  rintro obj s₁ ⟨rfl, rfl⟩
  have hg : (s.heap.push (recObj "collections.deque" dq0)).get? s.heap.objs.size = some (recObj "collections.deque" dq0) := Heap.get?_push_size _ rfl
  refine ⟨⟨_, hg, rfl⟩, args_init1 _ _, ?_⟩
  unfold Builtin.«collections.deque.__init__»
  show wpAny _ _ (setField (.ref s.heap.objs.size) 0 .none >>= fun _ => Builtin.Deque.clear (.ref s.heap.objs.size) >>= fun _ => Builtin.Deque.extend (.ref s.heap.objs.size) (.ref l) >>= fun _ => ret .none) _ _ _
  refine wpAny_bind (wpAny_setField_rec (a := s.heap.objs.size) (vs := dq0) hg (by rw [dq0_size]; decide) fun h' hg' sb => ?_)
  rw [dq0_set] at hg'
  refine wpAny_bind ?_
  unfold Builtin.Deque.clear
  refine wpAny_bind ?_
  unfold Builtin.Deque.items
  refine wpAny_bind (wpAny_fieldsOf hg' rfl (wpAny_pure ?_))
  show wpAny _ _ (if (dq0.extract 2 dq0.size).size > 0 then _ else _) _ _ _
  rw [if_neg dq0_items]
  refine wpAny_pure ?_
  have kk : ∀ b o, s.heap.get? b = some o → h'.get? b = some o := fun b o e => by
    have hb : b ≠ s.heap.objs.size := fun z => by
      have hlt := Heap.lt_size e
      rw [z] at hlt
      exact absurd hlt (Nat.lt_irrefl _)
    exact (sb.2 b hb).trans (Heap.get?_push_of_some _ e)
  have e0 : dq0 = dqV 0 #[] := by
    show dq0 = #[Value.none, rawInt 0] ++ (#[] : Array Value)
    exact dq0_app.symm
  rw [e0] at hg'
  refine wpAny_bind (ext_run (A := A.in1.in1) hh hg' (hl.at fun o e => kk _ o e) hz (Nat.ne_of_gt hllt) fun h2 tk e2 k2 => ?_)
  rw [Int.zero_add] at e2
  exact wpAny_pure ⟨rfl, q h2 tk e2 fun b o e => k2 b o (fun z => by
    have hlt := Heap.lt_size e
    rw [z] at hlt
    exact absurd hlt (Nat.lt_irrefl _)) (kk b o e)⟩
end
end Dq

/-! Md7: deques of whole numbers as cells. -/
namespace Md
open PySem PySem.Spec PyProof.Rows L2 Pd
section
variable {X : Cx} {pins : List (Addr × Obj)} {σ : St} {H : Hp} {s : Shared} {a : Addr} {k k' : Int} {ns ns' : List Int}
theorem dq_at (I : Inv X pins σ H s) (e : H a = some (DqI a k ns)) : ns.length ≤ sizeLine ∧ ∃ us : List Value, s.heap.get? a = some (Dq.dqO k us.toArray) ∧ Vals (ns.map V.int) us := (I.hok a _ e).1
theorem dq_ok {P : Program} {w : World} {H : Hp} {h : Heap} {us : List Value} (hz : ns.length ≤ sizeLine) (e : h.get? a = some (Dq.dqO k us.toArray)) (r : Vals (ns.map V.int) us) : ObjOk P w H h a (DqI a k ns) :=
  ⟨⟨hz, us, e, r⟩, ⟨_, e⟩, fun _ _ ⟨p1, us', p2, p3⟩ kk => ⟨p1, us', kk _ p2, p3⟩⟩
theorem dq_write {h' : Heap} {t' : Nat} {us : List Value} (I : Inv X pins σ H s) (e : H a = some (DqI a k ns)) (kk : ∀ b u, b ≠ a → s.heap.get? b = some u → h'.get? b = some u) (hz : ns'.length ≤ sizeLine) (new : h'.get? a = some (Dq.dqO k' us.toArray)) (r : Vals (ns'.map V.int) us) :
    Inv X pins σ (upd H a (DqI a k' ns')) { s with heap := h', toks := t' } :=
  I.write (by rw [e]; exact True.intro) (.inl rfl) kk ⟨_, new⟩ (dq_ok hz new r)
theorem dq_laid {h' : Heap} {t' : Nat} {us : List Value} (I : Inv X pins σ H s) (hp : s.heap.objs.size ≤ a) (kk : ∀ b u, s.heap.get? b = some u → h'.get? b = some u) (hz : ns.length ≤ sizeLine) (new : h'.get? a = some (Dq.dqO k us.toArray)) (r : Vals (ns.map V.int) us) :
    Inv X pins σ (upd H a (DqI a k ns)) { s with heap := h', toks := t' } := I.laid kk hp (dq_ok hz new r)
end
section
variable {X : Cx}
theorem vals_ints {us : List Value} : ∀ {ns : List Int}, Vals (ns.map V.int) us → us.length = ns.length := fun r => by have := r.length; rw [List.length_map] at this; exact this.symm
theorem call_dq0 : CallR X (.type "collections.deque") (fun xs H Q => xs = [] ∧ ∀ q, H q = none → Q (.ref q) (upd H q (DqI q 0 []))) := by
  intro pins s σ H xs us Q I r h
  obtain ⟨rfl, q⟩ := h
  cases r
  refine dq_call0 fun h' hg k => ?_
  have e0 : recObj "collections.deque" dq0 = Dq.dqO 0 ([] : List Value).toArray := congrArg (recObj "collections.deque") dq0_app.symm
  rw [e0] at hg
  exact ⟨.ref s.heap.objs.size, _, dq_laid (ns := []) (us := []) I (t' := s.toks) (Nat.le_refl _) k (Nat.zero_le _) hg .nil, rfl, q _ (I.hok.fresh (Nat.le_refl _))⟩
theorem call_dq1 : CallR X (.type "collections.deque") (fun xs H Q => ∃ l ns, xs = [.ref l] ∧ SqL X.K H l (ns.map V.int) ∧ (X.calm = true) ∧ ∀ q, H q = none → Q (.ref q) (upd H q (DqI q ns.length ns))) := by
  intro pins s σ H xs us Q I r h
  obtain ⟨l, ns, rfl, hq, hc, q⟩ := h
  obtain ⟨u, rfl, rx⟩ := vals1 r
  cases rx
  obtain ⟨its, rv, p, hz⟩ := I.list hq
  have hl := rv.length
  rw [List.length_map] at hl hz
  have hs : its.toArray.size = ns.length := by rw [List.size_toArray]; exact hl.symm
  refine Dq.call1 (items := its.toArray) (I.ok.hd hc) p.isList (by rw [hs]; exact hz) fun h' tk hg k => ?_
  rw [hs] at hg
  exact ⟨.ref s.heap.objs.size, _, dq_laid (ns := ns) (us := its) I (t' := tk) (Nat.le_refl _) k hz hg rv, rfl, q _ (I.hok.fresh (Nat.le_refl _))⟩
/-! ### methods -/
def tyDq (x : V) (H : Hp) : Prop := ∃ a k ns, x = .ref a ∧ H a = some (DqI a k ns)
def tDM0 (r : V → List V → Hp → VK → Prop) (to : TE) : TE := fun σ H Q => to σ H fun x H1 => tyDq x H1 ∧ r x [] H1 Q
def tDM (r : V → List V → Hp → VK → Prop) (to : TE) (t : TA) : TE := fun σ H Q => to σ H fun x H1 => tyDq x H1 ∧ t σ H1 fun xs H2 => r x xs H2 Q
theorem dq_ty {pins : List (Addr × Obj)} {σ : St} {H : Hp} {s : Shared} {y : V} {v : Value} (I : Inv X pins σ H s) (r : RelV y v) (ty : tyDq y H) :
    s.TypeIs v "collections.deque" ∧ ∀ a, v = .ref a → ∃ ob, s.heap.get? a = some ob ∧ ob.dict = none := by
  obtain ⟨a, k, ns, rfl, e⟩ := ty
  cases r
  obtain ⟨_, us, g, _⟩ := dq_at I e
  refine ⟨⟨_, g, rfl⟩, fun b hb => ?_⟩
  cases hb
  exact ⟨_, g, rfl⟩
variable {o e : Expr} {es : List Expr} {to : TE} {t : TA} {name : Str} {apos cpos : Pos} {id : String} {r : V → List V → Hp → VK → Prop}
theorem pe_dm0 (slot : PySem.Slot "collections.deque" name id) (hty : typeOf (.builtin id) = pure (.type "method_descriptor")) (hm : MtR X id r) (ho : PE X o to)
    (hbase : attributeBase o name X.env (eval o X.env) = eval o X.env := by rfl) (hline : (apos.endLine == cpos.line) = true := by rfl) : PE X (.Call (.Attribute o name apos) [] [] cpos) (tDM0 r to) := by
  refine ⟨fun pins s σ H Q I h => ?_⟩
  refine wpAny_Call_method0_late hbase hline (thn (ho.run pins s σ H _ I h) fun v s1 ⟨x, H1, I1, r1, ty, q1⟩ => ?_)
  obtain ⟨h1, h2⟩ := dq_ty I1 r1 ty
  exact ⟨"collections.deque", id, Dq.plainAttrs, slot, hty, h1, h2, Calls.callWith_builtin rfl (PySem.evalArgs_none (hm pins s1 σ H1 x [] v [] Q I1 r1 .nil q1))⟩
theorem pe_dm (slot : PySem.Slot "collections.deque" name id) (hty : typeOf (.builtin id) = pure (.type "method_descriptor")) (hm : MtR X id r) (ho : PE X o to) (ha : PA X (e :: es) t)
    (hbase : attributeBase o name X.env (eval o X.env) = eval o X.env := by rfl)
    (hfew : ((backTo cpos (starEach (e :: es) X.env)).all (fun x => !x.1) && (backToKw cpos (keywordEach [] X.env)).all (fun x => x.1.isSome)
      && decide ((e :: es).length + ([] : List Keyword).length + (if ([] : List Keyword).isEmpty then 0 else 1) < 30)) = true := by rfl)
    (hline : (apos.endLine == cpos.line) = true := by rfl) (hs : starEach (e :: es) X.env = (false, eval e X.env) :: starEach es X.env := by rfl) (hplain : (backTo cpos (starEach es X.env)).any (·.1) = false := by rfl) :
    PE X (.Call (.Attribute o name apos) (e :: es) [] cpos) (tDM r to t) := by
  refine ⟨fun pins s σ H Q I h => ?_⟩
  refine wpAny_Call_method_late hbase hfew hline rfl (thn (ho.run pins s σ H _ I h) fun v s1 ⟨x, H1, I1, r1, ty, q1⟩ => ?_)
  obtain ⟨h1, h2⟩ := dq_ty I1 r1 ty
  refine ⟨"collections.deque", id, Dq.plainAttrs, slot, hty, h1, h2, ?_⟩
  have hA := ha.run cpos pins s1 σ H1 _ I1 q1
  rw [hs] at hA ⊢
  refine Calls.callWith_builtin (by show (false || (backTo cpos (starEach es X.env)).any (·.1)) = false; rw [hplain] <;> rfl) (Calls.evalArgs_plain ?_)
  exact thn hA fun us s2 ⟨vs, H2, I2, r2, q2⟩ => hm pins s2 σ H2 x vs v us Q I2 r1 r2 q2
def rDqApp : V → List V → Hp → VK → Prop := fun x vs H Q => ∃ a k ns i, x = .ref a ∧ vs = [.int i] ∧ H a = some (DqI a k ns) ∧ ns.length < sizeLine ∧ Q .non (upd H a (DqI a (k + 1) (ns ++ [i])))
theorem mt_dqApp : MtR X "collections.deque.append" rDqApp := by
  intro pins s σ H x vs v us Q I rx rv h
  obtain ⟨a, k, ns, i, rfl, rfl, hH, hz, q⟩ := h
  cases rx
  obtain ⟨u, rfl, ru⟩ := vals1 rv
  obtain ⟨_, its, g, r⟩ := dq_at I hH
  have hl := vals_ints r
  refine Dq.append_run g (by rw [List.size_toArray, hl]; exact hz) fun h' e sb => ?_
  have e2 : its.toArray.push u = (its ++ [u]).toArray := by simp
  rw [e2] at e
  refine ⟨.non, _, dq_write (t' := s.toks) (ns' := ns ++ [i]) I hH (fun b o hb eo => (sb.2 b hb).trans eo) (by rw [List.length_append, List.length_singleton]; omega) e ?_, rfl, q⟩
  rw [List.map_append]
  exact r.append (.cons ru .nil)
def rDqPopl : V → List V → Hp → VK → Prop := fun x vs H Q => ∃ a k i ns, x = .ref a ∧ vs = [] ∧ H a = some (DqI a k (i :: ns)) ∧ Q (.int i) (upd H a (DqI a (k + 1) ns))
theorem mt_dqPopl : MtR X "collections.deque.popleft" rDqPopl := by
  intro pins s σ H x vs v us Q I rx rv h
  obtain ⟨a, k, i, ns, rfl, rfl, hH, q⟩ := h
  cases rx
  cases rv
  obtain ⟨hz, its, g, r⟩ := dq_at I hH
  have hl := vals_ints r
  cases r with
  | cons ru rr =>
    rename_i u its
    refine Dq.popleft_run (x := u) g (by rw [List.size_toArray, hl]; exact hz) (by simp) fun h' e sb => ?_
    have e2 : (u :: its).toArray.eraseIdxIfInBounds 0 = its.toArray := by simp [Array.eraseIdxIfInBounds]
    rw [e2] at e
    have hz' : ns.length ≤ sizeLine := by rw [List.length_cons] at hz; omega
    exact ⟨.int i, _, dq_write (t' := s.toks) (ns' := ns) I hH (fun b o hb eo => (sb.2 b hb).trans eo) hz' e rr, ru, q⟩
/-! ### len, list -/
theorem call_lenQ : CallR X (.builtin "len") (fun xs H Q => ∃ a k ns, xs = [V.ref a] ∧ H a = some (DqI a k ns) ∧ Q (.int ns.length) H) := by
  intro pins s σ H xs us Q I rs h
  obtain ⟨a, k, ns, rfl, hH, q⟩ := h
  obtain ⟨u, rfl, rx⟩ := vals1 rs
  cases rx
  obtain ⟨hz, its, g, r⟩ := dq_at I hH
  have hl := vals_ints r
  have hs : its.toArray.size = ns.length := by rw [List.size_toArray]; exact hl
  refine Dq.call_len g (by rw [hs]; exact hz) ?_
  rw [hs]
  exact ⟨.int ns.length, H, I.tok _, ⟨_, rfl⟩, q⟩
theorem call_listQ (hc : X.calm = true) : CallR X (.type "list") (fun xs H Q => ∃ a k ns, xs = [V.ref a] ∧ H a = some (DqI a k ns) ∧ ∀ l, H l = none → Q (.ref l) (upd H l (.lst (ns.map V.int)))) := by
  intro pins s σ H xs us Q I rs h
  obtain ⟨a, k, ns, rfl, hH, q⟩ := h
  obtain ⟨u, rfl, rx⟩ := vals1 rs
  cases rx
  obtain ⟨hz, its, g, r⟩ := dq_at I hH
  have hl := vals_ints r
  have hs : its.toArray.size = ns.length := by rw [List.size_toArray]; exact hl
  refine Dq.call_list (I.ok.hd hc) g (by rw [hs]; exact hz) fun h' tk acc c' kk e hi => ?_
  have ea : acc = its.toArray := Dq.items_eq (P := fun _ _ => True) hi
  subst ea
  refine ⟨.ref s.heap.objs.size, _, I.laid (t' := tk) (o := .lst (ns.map V.int)) kk (Nat.le_refl _) ⟨by rw [List.length_map]; exact hz, its, c', r, e⟩, rfl, q _ (I.hok.fresh (Nat.le_refl _))⟩
/-! ### its walk -/
def Itq (a : Addr) (k : Int) (ns : List Int) : It :=
  ⟨fun i H => H a = some (DqI a k ns) ∧ i < ns.length, fun i H x H' => H' = H ∧ ∃ z, ns[i]? = some z ∧ x = .int z, fun i H => H a = some (DqI a k ns) ∧ ns.length ≤ i⟩
theorem turn_dq {P : Program} {w : World} {K : PySem.W.Frag} {tg : Expr} (a it : Addr) (k : Int) (ns : List Int) (ne : a ≠ it) : Turn P w K tg (Itq a k ns) [it] it (fun i h => i ≤ ns.length ∧ h.get? it = some (Dq.itO a (i : Nat) k ((ns.length : Int) - (i : Nat)))) where
  mem := by simp
  obj := fun i h st b hb => by
    have e : b = it := by simpa using hb
    subst e
    exact ⟨_, st.2, fun v z => by cases z⟩
  keep := fun i h h' st k => ⟨st.1, k it (by simp) _ st.2⟩
  item := by
    intro X hP hw hK hc i pins s σ H E I hf st hg
    subst hP hw hK
    obtain ⟨hH, hlt⟩ := hg
    obtain ⟨hz, its, g, r⟩ := dq_at I hH
    have hl := vals_ints r
    have hs : its.toArray.size = ns.length := by rw [List.size_toArray]; exact hl
    obtain ⟨x, hx⟩ := some_at (xs := ns) hlt
    obtain ⟨u, hu, ru⟩ := r.get (i := i) (x := V.int x) (by rw [List.getElem?_map, hx]; rfl)
    obtain ⟨f0, f1, f2, f3, f4, f5⟩ := hf it (by simp)
    obtain ⟨_, hit⟩ := st
    refine Dq.next_item (us := its.toArray) (n := k) (i := i) (x := u) (by rw [hs]; exact hit) g (by rw [List.getElem?_toArray]; exact hu) fun h' st' sb => ?_
    rw [hs] at st'
    have I1 : Inv X pins σ H { s with heap := h' } := I.turned (t' := s.toks) (fun b o hb e => (sb.2 b hb).trans e) f0 f1 f3 f4 f5
    exact ⟨u, rfl, go_of (s := { s with heap := h' }) st' rfl rfl (by decide) ⟨.int x, H, I1, ru, ⟨rfl, x, hx, rfl⟩, ⟨hlt, st'⟩, fun b hb => (hf b hb).1⟩⟩
  done := by
    intro X hP hw hK hc i pins s σ H E I hf st hg
    subst hP hw hK
    obtain ⟨hH, hle⟩ := hg
    obtain ⟨hz, its, g, r⟩ := dq_at I hH
    obtain ⟨f0, f1, f2, f3, f4, f5⟩ := hf it (by simp)
    obtain ⟨hin, hit⟩ := st
    have e1 : (ns.length : Int) - ((i : Nat) : Int) = 0 := by omega
    rw [e1] at hit
    exact Dq.next_end (I.ok.hd hc) hit g fun h' eb => ⟨rfl, I.turned (t' := s.toks) (fun b o hb e => eb b o e) f0 f1 f3 f4 f5⟩
  self := fun A i s Q E st h => Dq.iter_self st.2 h
def iDq (te : TE) : TI := fun σ H R => te σ H fun v H1 => ∃ a k ns, v = .ref a ∧ H1 a = some (DqI a k ns) ∧ R (Itq a k ns) H1
theorem pi_dq {tg : Expr} {te : TE} (he : PE X e te) : PI X tg e (iDq te) := by
  refine ⟨fun pins s σ H R I h => ?_⟩
  refine thn (he.run pins s σ H _ I h) fun u s1 ⟨v, H1, I1, r1, a, k, ns, ev, hH, q⟩ => ?_
  subst ev
  obtain rfl : u = Value.ref a := r1
  obtain ⟨hz, its, g, r⟩ := dq_at I1 hH
  have hl := vals_ints r
  have hs : its.toArray.size = ns.length := by rw [List.size_toArray]; exact hl
  refine Dq.iter_run g ?_
  have ne : a ≠ s1.heap.objs.size := Nat.ne_of_lt (Heap.lt_size g)
  refine pi_one (tk := s1.toks) I1 _ (turn_dq a _ k ns ne) ⟨Nat.zero_le _, ?_⟩ q
  rw [hs]
  simpa using Heap.get?_push_size s1.heap rfl
end
/-! ### over a store -/
def yDqN : YM W := fun _ μ => some (.rf μ.length, μ ++ [.deq 0 []])
def dInts : W → Option (List Int)
  | .da (.list ds) => asInts ds
  | _ => none
def yDq1 (a : YM W) : YM W := fun ρ μ => (a ρ μ).bind fun p => (dInts p.1).bind fun ns => if ns.length ≤ sizeLine then some (.rf p.2.length, p.2 ++ [.deq ns.length ns]) else none
def yDqApp (o : YM W) (m : YM (List W)) : YM W := fun ρ μ => (o ρ μ).bind fun p => match p.1 with
  | .rf n => match p.2[n]? with
    | some (.deq _ _) => (m ρ p.2).bind fun q => match q.1, q.2[n]? with
      | [.da (.int i)], some (.deq k ns) => if ns.length < sizeLine then some (.da .none, q.2.set n (.deq (k + 1) (ns ++ [i]))) else none
      | _, _ => none
    | _ => none
  | _ => none
def yDqPopl (o : YM W) : YM W := fun ρ μ => (o ρ μ).bind fun p => match p.1 with
  | .rf n => match p.2[n]? with
    | some (.deq k (i :: ns)) => some (.da (.int i), p.2.set n (.deq (k + 1) ns))
    | _ => none
  | _ => none
def yLenQ (a : YM W) : YM W := fun ρ μ => (a ρ μ).bind fun p => match p.1 with
  | .rf n => match p.2[n]? with
    | some (.deq _ ns) => some (.da (.int ns.length), p.2)
    | _ => none
  | _ => none
def iW (i : Int) : W := .da (.int i)
def yListQ (a : YM W) : YM (List W) := fun ρ μ => (a ρ μ).bind fun p => match p.1 with
  | .rf n => match p.2[n]? with
    | some (.deq _ ns) => some (ns.map iW, p.2)
    | _ => none
  | _ => none
def gdQ (n : Nat) (k : Int) (ns : List Int) : Sto → Bool := fun μ => match μ[n]? with
  | some (.deq k' ms) => decide (k' = k) && decide (ms = ns)
  | _ => false
def yItQ (a : YM W) : YM YIt := fun ρ μ => (a ρ μ).bind fun p => match p.1 with
  | .rf n => match p.2[n]? with
    | some (.deq k ns) => some ((ns.map iW, gdQ n k ns), p.2)
    | _ => none
  | _ => none
section
variable {ι : Type} {T : List (Addr × Str)} {K : PySem.W.Frag} {cl : Cf} {Wx : WN} {X : ι → Cx} {x : Str} {e o : Expr} {es : List Expr} {p pos apos cpos : Pos} {a : YM W} {m : YM (List W)}
theorem yd_dqN (hm : ∀ i0, (X i0).mg x = some (.type "collections.deque")) (hg : ∀ i0, Gl (X i0) x := by intro _; rfl) (hdb : (x == ("__debug__" : Str)) = false := by decide) : YD X T K cl (.Call (.Name x p) [] [] pos) yDqN := by
  refine ⟨_, fun i0 => pe_callGT0 call_dq0 (hg i0) (hm i0) hdb, ?_⟩
  intro F0 H0 κ0 σ F H κ ρ μ w μ' S h Q q
  cases h
  refine ⟨rfl, fun p hp => ?_⟩
  obtain ⟨m2, s2, r2⟩ := new_cell (c := .deq 0 []) S.st S.s hp ⟨upd_same, S.s.same.free hp, Nat.zero_le _⟩
  exact q _ _ _ _ m2 s2 r2
theorem yd_dq1 (ha : YD X T K cl e a) (hm : ∀ i0, (X i0).mg x = some (.type "collections.deque")) (hc : ∀ i0, (X i0).calm = true := by intro _; rfl) (hg : ∀ i0, Gl (X i0) x := by intro _; rfl) (hdb : (x == ("__debug__" : Str)) = false := by decide)
    (he : ∀ i0, starEach [e] (X i0).env = (false, eval e (X i0).env) :: starEach [] (X i0).env := by intro _; rfl) (hpl : ∀ i0, (backTo pos (starEach [] (X i0).env)).any (·.1) = false := by intro _; rfl) (k : ∀ i0, (X i0).K = K := by intro _; rfl) : YD X T K cl (.Call (.Name x p) [e] [] pos) (yDq1 a) := by
  obtain ⟨t, p1, l⟩ := ha
  let r : List V → Hp → VK → Prop := fun xs H Q => ∃ l ns, xs = [V.ref l] ∧ SqL K H l (ns.map V.int) ∧ ∀ q, H q = none → Q (.ref q) (upd H q (DqI q ns.length ns))
  refine ⟨tCB r (tCons t tNil), fun i0 => ?_, ?_⟩
  · have e := k i0
    subst e
    refine pe_callGT (r := r) ?_ (hg i0) (hm i0) (pa_cons (p1 i0) pa_nil (he i0)) hdb (he i0) (hpl i0)
    intro pins s σ H xs us Q I rs h
    obtain ⟨l, ns, h1, h2, h3⟩ := h
    exact call_dq1 pins s σ H xs us Q I rs ⟨l, ns, h1, h2, hc i0, h3⟩
  intro F0 H0 κ0 σ F H κ ρ μ w μ' S h Q q
  unfold yDq1 at h
  obtain ⟨⟨v, μ1⟩, e1, h1⟩ := Option.bind_eq_some_iff.mp h
  obtain ⟨ns, e2, h2⟩ := Option.bind_eq_some_iff.mp h1
  split at h2
  case isFalse => cases h2
  rename_i hz
  cases h2
  refine l F0 H0 κ0 σ F H κ ρ μ v μ1 S e1 _ fun v' F1 H1 κ1 m1 s1 r1 => ?_
  unfold dInts at e2
  simp only at e2
  split at e2
  · cases r1 with
    | da r1 =>
      cases r1 with
      | lst hs ra =>
        obtain ⟨e4, _⟩ := asInts_rp ra e2
        subst e4
        refine ⟨_, ns, rfl, m1.s.same.seq hs, fun p hp => ?_⟩
        obtain ⟨m2, s2, r2⟩ := new_cell (c := .deq ns.length ns) s1 m1.s hp ⟨upd_same, m1.s.same.free hp, hz⟩
        exact q _ _ _ _ (m1.trans m2) s2 r2
  · cases e2
theorem dq_code {b c : Addr} {k : Int} {ns : List Int} {q : Str} (hz : ns.length ≤ sizeLine) : DqI b k ns ≠ LamX.CodeO c q := by
  intro z
  unfold DqI LamX.CodeO at z
  have e4 := HO.ext.inj z
  let us : List Value := ns.map fun i => Value.int i 0
  have rv : ∀ l : List Int, Vals (l.map V.int) (l.map fun i => Value.int i 0) := by
    intro l
    induction l with
    | nil => exact .nil
    | cons i l ih => exact .cons ⟨_, rfl⟩ ih
  let o : Obj := recObj "collections.deque" (#[Value.none, rawInt k] ++ us.toArray)
  let h : Heap := { objs := Array.replicate (max b c + 1) o }
  have get : ∀ a : Nat, a ≤ max b c → h.get? a = some o := by
    intro a ha
    have e : h.objs[a]? = some o := by
      show (Array.replicate (max b c + 1) o)[a]? = some o
      rw [Array.getElem?_replicate, if_pos (Nat.lt_succ_of_le ha)]
    unfold Heap.get?
    rw [e]
    rfl
  have h1 : (ns.length ≤ sizeLine ∧ ∃ (us : List Value), h.get? b = some (recObj "collections.deque" (#[Value.none, rawInt k] ++ us.toArray)) ∧ Vals (ns.map V.int) us) := ⟨hz, us, get b (Nat.le_max_left _ _), rv ns⟩
  have h2 : ∃ (oc : Obj) (vs : Array Value) (t : Tok), h.get? c = some oc ∧ oc.data = .fields vs ∧ vs[1]? = some (.str q t) := (congrFun e4 h) ▸ h1
  obtain ⟨oc, vs, t, g, hd, hv⟩ := h2
  rw [get c (Nat.le_max_right _ _)] at g
  cases g
  have e5 : (#[Value.none, rawInt k] ++ us.toArray) = vs := Data.fields.inj hd
  rw [← e5, Array.getElem?_append_left (by show 1 < 2; decide)] at hv
  have e6 : (#[Value.none, rawInt k] : Array Value)[1]? = some (rawInt k) := rfl
  rw [e6] at hv
  cases hv
theorem dq_put {F H : Hp} {κ : List Addr} {μ : Sto} {n : Nat} {b : Addr} {k k' : Int} {ns ns' : List Int} (S : StOk K cl F H κ μ) (s : Sub T F H) (e2 : κ[n]? = some b) (a1 : H b = some (DqI b k ns)) (a2 : F b = Option.none) (hz : ns.length ≤ sizeLine) (hz' : ns'.length ≤ sizeLine) :
    Mov T F H κ F (upd H b (DqI b k' ns')) κ ∧ StOk K cl F (upd H b (DqI b k' ns')) κ (μ.set n (.deq k' ns')) := by
  refine ⟨Mov.write s a1 a2 (List.mem_of_getElem? e2) fun t p hp => ?_, S.write e2 ⟨upd_same, a2, hz'⟩⟩
  obtain ⟨ps, b1, b2, b3⟩ := t p hp
  refine ⟨ps, ?_, b2, fun pos cv hcv => ?_⟩
  · rw [upd_ne (fun z => by rw [z, a1] at b1; unfold DqI at b1; cases b1)]
    exact b1
  · obtain ⟨c, e1, e3⟩ := b3 pos cv hcv
    refine ⟨c, e1, ?_⟩
    rw [upd_ne (fun z => by rw [z, a1] at e3; exact dq_code hz (Option.some.inj e3))]
    exact e3
variable {mo : YM W}
theorem yd_dqApp (ho : YD X T K cl o mo) (ha : YA X T K cl [e] m)
    (hbase : ∀ i0, attributeBase o (Str.ofString "append") (X i0).env (eval o (X i0).env) = eval o (X i0).env := by intro _; rfl)
    (hfew : ∀ i0, ((backTo cpos (starEach [e] (X i0).env)).all (fun x => !x.1) && (backToKw cpos (keywordEach [] (X i0).env)).all (fun x => x.1.isSome)
      && decide (([e] : List Expr).length + ([] : List Keyword).length + (if ([] : List Keyword).isEmpty then 0 else 1) < 30)) = true := by intro _; rfl)
    (hline : (apos.endLine == cpos.line) = true := by rfl) (hs : ∀ i0, starEach [e] (X i0).env = (false, eval e (X i0).env) :: starEach [] (X i0).env := by intro _; rfl) (hplain : ∀ i0, (backTo cpos (starEach [] (X i0).env)).any (·.1) = false := by intro _; rfl) :
    YD X T K cl (.Call (.Attribute o (Str.ofString "append") apos) [e] [] cpos) (yDqApp mo m) := by
  obtain ⟨t, p, l⟩ := ho
  obtain ⟨u, p2, l2⟩ := ha
  refine ⟨tDM rDqApp t u, fun i0 => pe_dm Dq.slot_append Dq.type_append mt_dqApp (p i0) (p2 i0) (hbase i0) (hfew i0) hline (hs i0) (hplain i0), ?_⟩
  intro F0 H0 κ0 σ F H κ ρ μ w μ' S h Q q
  unfold yDqApp at h
  obtain ⟨⟨x, μ1⟩, e1, h1⟩ := Option.bind_eq_some_iff.mp h
  clear h
  refine l F0 H0 κ0 σ F H κ ρ μ x μ1 S e1 _ fun v F1 H1 κ1 m1 s1 r1 => ?_
  clear e1
  have S1 := S.move m1 s1
  cases r1 with
  | da r1 => cases h1
  | rf e2 =>
    rename_i n b
    simp only at h1
    split at h1
    · rename_i k0 ns0 e0
      obtain ⟨⟨us, μ2⟩, e3, h2⟩ := Option.bind_eq_some_iff.mp h1
      clear h1
      obtain ⟨a0, _⟩ := s1.ok _ _ _ e0 e2
      refine ⟨⟨_, _, _, rfl, a0⟩, ?_⟩
      refine l2 F0 H0 κ0 σ F1 H1 κ1 ρ μ1 us μ2 S1 e3 _ fun xs F2 H2 κ2 m2 s2 r2 => ?_
      simp only at h2
      split at h2
      · rename_i i k ns e4
        split at h2
        · rename_i hz
          cases h2
          have e2' := m2.at e2
          obtain ⟨a1, a2, a3⟩ := s2.ok _ _ _ e4 e2'
          cases r2 with
          | cons ru rr =>
            cases rr
            cases ru with
            | da ru =>
              cases ru
              obtain ⟨m3, s3⟩ := dq_put (k' := k + 1) (ns' := ns ++ [i]) s2 m2.s e2' a1 a2 a3 (by rw [List.length_append, List.length_singleton]; omega)
              exact ⟨b, k, ns, i, rfl, rfl, a1, hz, q _ F2 _ κ2 ((m1.trans m2).trans m3) s3 (.da .non)⟩
        · cases h2
      · cases h2
    · cases h1
theorem yd_dqPopl (ho : YD X T K cl o mo)
    (hbase : ∀ i0, attributeBase o (Str.ofString "popleft") (X i0).env (eval o (X i0).env) = eval o (X i0).env := by intro _; rfl)
    (hline : (apos.endLine == cpos.line) = true := by rfl) : YD X T K cl (.Call (.Attribute o (Str.ofString "popleft") apos) [] [] cpos) (yDqPopl mo) := by
  obtain ⟨t, p, l⟩ := ho
  refine ⟨tDM0 rDqPopl t, fun i0 => pe_dm0 Dq.slot_popleft Dq.type_popleft mt_dqPopl (p i0) (hbase i0) hline, ?_⟩
  intro F0 H0 κ0 σ F H κ ρ μ w μ' S h Q q
  unfold yDqPopl at h
  obtain ⟨⟨x, μ1⟩, e1, h1⟩ := Option.bind_eq_some_iff.mp h
  clear h
  refine l F0 H0 κ0 σ F H κ ρ μ x μ1 S e1 _ fun v F1 H1 κ1 m1 s1 r1 => ?_
  clear e1
  cases r1 with
  | da r1 => cases h1
  | rf e2 =>
    rename_i n b
    simp only at h1
    split at h1
    · rename_i k i ns e0
      cases h1
      obtain ⟨a1, a2, a3⟩ := s1.ok _ _ _ e0 e2
      obtain ⟨m3, s3⟩ := dq_put (k' := k + 1) (ns' := ns) s1 m1.s e2 a1 a2 a3 (by rw [List.length_cons] at a3; omega)
      exact ⟨⟨b, k, _, rfl, a1⟩, b, k, i, ns, rfl, rfl, a1, q _ F1 _ κ1 (m1.trans m3) s3 (.da (.int i))⟩
    · cases h1
theorem yd_lenQ (ha : YD X T K cl e a) (hm : ∀ i0, (X i0).mg "len" = none) (hg : ∀ i0, Gl (X i0) "len" := by intro _; rfl) (he : ∀ i0, starEach [e] (X i0).env = (false, eval e (X i0).env) :: starEach [] (X i0).env := by intro _; rfl) (hpl : ∀ i0, (backTo pos (starEach [] (X i0).env)).any (·.1) = false := by intro _; rfl) :
    YD X T K cl (.Call (.Name "len" p) [e] [] pos) (yLenQ a) := by
  obtain ⟨t, p1, l⟩ := ha
  refine ⟨_, fun i0 => pe_callB call_lenQ (hg i0) (hm i0) (by decide +kernel) (pa_cons (p1 i0) pa_nil (he i0)) (by decide) (by decide) (he i0) (hpl i0), ?_⟩
  intro F0 H0 κ0 σ F H κ ρ μ w μ' S h Q q
  unfold yLenQ at h
  obtain ⟨⟨x, μ1⟩, e1, h1⟩ := Option.bind_eq_some_iff.mp h
  clear h
  refine l F0 H0 κ0 σ F H κ ρ μ x μ1 S e1 _ fun v F1 H1 κ1 m1 s1 r1 => ?_
  cases r1 with
  | da r1 => cases h1
  | rf e2 =>
    simp only at h1
    split at h1
    · rename_i k ns e3
      cases h1
      obtain ⟨a1, a2, a3⟩ := s1.ok _ _ _ e3 e2
      exact ⟨_, k, ns, rfl, a1, q _ F1 H1 κ1 m1 s1 (.da (.int _))⟩
    · cases h1
theorem ints_rws' {F : Hp} {κ : List Addr} (ns : List Int) : RWs K F κ (ns.map V.int) (ns.map iW) := ints_rws ns
theorem yf_listQ (ha : YD X T K cl e a) (hm : ∀ i0, (X i0).mg "list" = none) (hc : ∀ i0, (X i0).calm = true := by intro _; rfl) (hg : ∀ i0, Gl (X i0) "list" := by intro _; rfl) (hs : ∀ i0, starEach [e] (X i0).env = (false, eval e (X i0).env) :: starEach [] (X i0).env := by intro _; rfl) (hpl : ∀ i0, (backTo pos (starEach [] (X i0).env)).any (·.1) = false := by intro _; rfl) :
    YFd X T K cl (.Call (.Name "list" p) [e] [] pos) (yListQ a) := by
  obtain ⟨t, p1, l⟩ := ha
  refine ⟨_, fun i0 => pe_callTy (call_listQ (hc i0)) (hg i0) (hm i0) (by decide +kernel) (pa_cons (p1 i0) pa_nil (hs i0)) (by decide) (by decide) (hs i0) (hpl i0), ?_⟩
  intro F0 H0 κ0 σ F H κ ρ μ ws μ' S h Q q
  unfold yListQ at h
  obtain ⟨⟨x, μ1⟩, e1, h1⟩ := Option.bind_eq_some_iff.mp h
  clear h
  refine l F0 H0 κ0 σ F H κ ρ μ x μ1 S e1 _ fun v F1 H1 κ1 m1 s1 r1 => ?_
  cases r1 with
  | da r1 => cases h1
  | rf e2 =>
    simp only at h1
    split at h1
    · rename_i k ns e3
      cases h1
      obtain ⟨a1, a2, a3⟩ := s1.ok _ _ _ e3 e2
      refine ⟨_, k, ns, rfl, a1, fun p hp => ?_⟩
      obtain ⟨m2, s3, hf, hk⟩ := fy_new (vs := ns.map V.int) (ws := []) s1 m1.s hp
      exact q p _ F1 _ κ1 (m1.trans m2) s3 upd_same hf hk (m1.freN hp hk) (ints_rws' ns)
    · cases h1
theorem yi_dq {tg : Expr} (ha : YD X T K cl e a) : YI X T K cl tg e (yItQ a) := by
  obtain ⟨t, p, l⟩ := ha
  refine ⟨iDq t, fun i0 => pi_dq (p i0), ?_⟩
  intro F0 H0 κ0 σ F H κ ρ μ it μ' S h R q
  unfold yItQ at h
  obtain ⟨⟨w, μ1⟩, e1, h1⟩ := Option.bind_eq_some_iff.mp h
  clear h
  refine l F0 H0 κ0 σ F H κ ρ μ w μ1 S e1 _ fun v F1 H1 κ1 m1 s1 r1 => ?_
  clear e1
  cases r1 with
  | da r1 => cases h1
  | rf e2 =>
    rename_i n a0
    simp only at h1
    split at h1
    · rename_i k ns e3
      cases h1
      obtain ⟨a1, a2, a3⟩ := s1.ok _ _ _ e3 e2
      have gself : gdQ n k ns μ' = true := by unfold gdQ; rw [e3]; simp
      have key : ∀ {F' H' : Hp} {κ' : List Addr} {μ2 : Sto}, (∃ r, κ' = κ1 ++ r) → StOk K cl F' H' κ' μ2 → gdQ n k ns μ2 = true → H' a0 = some (DqI a0 k ns) := by
        intro F' H' κ' μ2 hr S2 hg
        obtain ⟨r, er⟩ := hr
        unfold gdQ at hg
        split at hg
        · rename_i k2 ms e4
          rw [Bool.and_eq_true, decide_eq_true_iff, decide_eq_true_iff] at hg
          obtain ⟨rfl, rfl⟩ := hg
          exact (S2.ok n _ a0 e4 (by rw [er]; exact get_app e2)).1
        · cases hg
      refine ⟨_, k, ns, rfl, a1, q _ F1 H1 κ1 m1 s1 gself ⟨fun i F' H' κ' μ2 s hr u S2 hg hi => ⟨key hr S2 hg, by simpa using hi⟩, fun i F' H' κ' μ2 s hr u S2 hg hi => ⟨key hr S2 hg, by simpa using hi⟩, fun i w F2 H2 κ2 μ2 x H3 s hr u S2 hg hw hy => ?_⟩⟩
      obtain ⟨e, z, hz, ex⟩ := hy
      subst e ex
      rw [List.getElem?_map, hz] at hw
      cases hw
      exact ⟨F2, Grow.refl u, .da (.int z)⟩
    · cases h1
end
end Md

/-! Hq1: heaps: the sift as a function, at the library's level. -/
namespace Hq
section
variable {α β : Type}
def hsw (xs : List α) (i j : Nat) : Option (List α) := (xs[i]?).bind fun x => (xs[j]?).bind fun y => some ((xs.set i y).set j x)
def sift (lt : α → α → Bool) : Nat → Bool → Nat → Nat → Int → List α → Option (List α)
  | 0, _, _, _, _, _ => none
  | f + 1, true, pos, top, after, xs =>
    if pos < xs.length / 2 then
      if 2 * pos + 1 + 1 < xs.length then (xs[2 * pos + 1]?).bind fun l => (xs[2 * pos + 1 + 1]?).bind fun r =>
        if lt l r = true then (hsw xs (2 * pos + 1) pos).bind fun ys => sift lt f true (2 * pos + 1) top after ys
        else (hsw xs (2 * pos + 1 + 1) pos).bind fun ys => sift lt f true (2 * pos + 1 + 1) top after ys
      else (hsw xs (2 * pos + 1) pos).bind fun ys => sift lt f true (2 * pos + 1) top after ys
    else sift lt f false pos top after xs
  | f + 1, false, pos, top, after, xs =>
    if pos > top then (xs[pos]?).bind fun x => (xs[(pos - 1) / 2]?).bind fun p =>
      if lt x p = true then (hsw xs ((pos - 1) / 2) pos).bind fun ys => sift lt f false ((pos - 1) / 2) top after ys
      else if after < 0 then some xs else sift lt f true after.toNat after.toNat (after - 1) xs
    else if after < 0 then some xs else sift lt f true after.toNat after.toNat (after - 1) xs
theorem hsw_map (f : α → β) {xs : List α} {i j : Nat} : hsw (xs.map f) i j = (hsw xs i j).map (List.map f) := by
  unfold hsw
  rw [List.getElem?_map, List.getElem?_map]
  cases xs[i]? with
  | none => rfl
  | some x =>
    cases xs[j]? with
    | none => rfl
    | some y => simp [List.map_set]
theorem sift_map (f : α → β) {lt : α → α → Bool} {lt' : β → β → Bool} (h : ∀ x y, lt' (f x) (f y) = lt x y) : ∀ (n : Nat) (d : Bool) (pos top : Nat) (after : Int) (xs : List α), sift lt' n d pos top after (xs.map f) = (sift lt n d pos top after xs).map (List.map f) := by
  intro n
  induction n with
  | zero => intros; rfl
  | succ n ih =>
    intro d pos top after xs
    have hs : ∀ (i j : Nat) (d : Bool) (p t : Nat) (a : Int), ((hsw (xs.map f) i j).bind fun ys => sift lt' n d p t a ys) = ((hsw xs i j).bind fun ys => sift lt n d p t a ys).map (List.map f) := by
      intro i j d p t a
      rw [hsw_map]
      cases hsw xs i j with
      | none => rfl
      | some ys => exact ih d p t a ys
    cases d with
    | true =>
      unfold sift
      rw [List.length_map, List.getElem?_map, List.getElem?_map]
      split
      · split
        · cases e1 : xs[2 * pos + 1]? with
          | none => rfl
          | some l =>
            cases e2 : xs[2 * pos + 1 + 1]? with
            | none => rfl
            | some r =>
              simp only [Option.map_some, Option.bind_some, h]
              split
              · exact hs _ _ _ _ _ _
              · exact hs _ _ _ _ _ _
        · exact hs _ _ _ _ _ _
      · exact ih _ _ _ _ _
    | false =>
      unfold sift
      rw [List.getElem?_map, List.getElem?_map]
      split
      · cases e1 : xs[pos]? with
        | none => rfl
        | some l =>
          cases e2 : xs[(pos - 1) / 2]? with
          | none => rfl
          | some r =>
            simp only [Option.map_some, Option.bind_some, h]
            split
            · exact hs _ _ _ _ _ _
            · split
              · rfl
              · exact ih _ _ _ _ _
      · split
        · rfl
        · exact ih _ _ _ _ _
theorem hsw_sub {xs ys : List α} {i j : Nat} (h : hsw xs i j = some ys) : ∀ z ∈ ys, z ∈ xs := by
  unfold hsw at h
  obtain ⟨x, e1, h⟩ := Option.bind_eq_some_iff.mp h
  obtain ⟨y, e2, h⟩ := Option.bind_eq_some_iff.mp h
  cases h
  intro z hz
  rcases List.mem_or_eq_of_mem_set hz with hz | hz
  · rcases List.mem_or_eq_of_mem_set hz with hz | hz
    · exact hz
    · rw [hz]; exact List.mem_of_getElem? e2
  · rw [hz]; exact List.mem_of_getElem? e1
theorem sift_mapM (f : α → β) {lt : α → α → Bool} {lt' : β → β → Bool} : ∀ (n : Nat) (d : Bool) (pos top : Nat) (after : Int) (xs : List α), (∀ x ∈ xs, ∀ y ∈ xs, lt' (f x) (f y) = lt x y) → sift lt' n d pos top after (xs.map f) = (sift lt n d pos top after xs).map (List.map f) := by
  intro n
  induction n with
  | zero => intros; rfl
  | succ n ih =>
    intro d pos top after xs h
    have hs : ∀ (i j : Nat) (d : Bool) (p t : Nat) (a : Int), ((hsw (xs.map f) i j).bind fun ys => sift lt' n d p t a ys) = ((hsw xs i j).bind fun ys => sift lt n d p t a ys).map (List.map f) := by
      intro i j d p t a
      rw [hsw_map]
      cases q : hsw xs i j with
      | none => rfl
      | some ys => exact ih d p t a ys fun x hx y hy => h x (hsw_sub q x hx) y (hsw_sub q y hy)
    cases d with
    | true =>
      unfold sift
      rw [List.length_map, List.getElem?_map, List.getElem?_map]
      split
      · split
        · cases e1 : xs[2 * pos + 1]? with
          | none => rfl
          | some l =>
            cases e2 : xs[2 * pos + 1 + 1]? with
            | none => rfl
            | some r =>
              simp only [Option.map_some, Option.bind_some, h l (List.mem_of_getElem? e1) r (List.mem_of_getElem? e2)]
              split
              · exact hs _ _ _ _ _ _
              · exact hs _ _ _ _ _ _
        · exact hs _ _ _ _ _ _
      · exact ih _ _ _ _ _ h
    | false =>
      unfold sift
      rw [List.getElem?_map, List.getElem?_map]
      split
      · cases e1 : xs[pos]? with
        | none => rfl
        | some l =>
          cases e2 : xs[(pos - 1) / 2]? with
          | none => rfl
          | some r =>
            simp only [Option.map_some, Option.bind_some, h l (List.mem_of_getElem? e1) r (List.mem_of_getElem? e2)]
            split
            · exact hs _ _ _ _ _ _
            · split
              · rfl
              · exact ih _ _ _ _ _ h
      · split
        · rfl
        · exact ih _ _ _ _ _ h
theorem hsw_perm {xs ys : List α} {i j : Nat} (h : hsw xs i j = some ys) : ys.Perm xs := by
  unfold hsw at h
  obtain ⟨x, e1, h⟩ := Option.bind_eq_some_iff.mp h
  obtain ⟨y, e2, h⟩ := Option.bind_eq_some_iff.mp h
  cases h
  obtain ⟨h1, e1⟩ := List.getElem?_eq_some_iff.mp e1
  obtain ⟨h2, e2⟩ := List.getElem?_eq_some_iff.mp e2
  subst e1 e2
  have := (List.set_set_perm h1 h2)
  exact this
theorem sift_perm {lt : α → α → Bool} : ∀ (n : Nat) (d : Bool) (pos top : Nat) (after : Int) (xs ys : List α), sift lt n d pos top after xs = some ys → ys.Perm xs := by
  intro n
  induction n with
  | zero => intro d pos top after xs ys h; cases h
  | succ n ih =>
    intro d pos top after xs ys h
    have hs : ∀ {i j : Nat} {d : Bool} {p t : Nat} {a : Int}, ((hsw xs i j).bind fun ys => sift lt n d p t a ys) = some ys → ys.Perm xs := by
      intro i j d p t a h
      obtain ⟨zs, e, h⟩ := Option.bind_eq_some_iff.mp h
      exact (ih _ _ _ _ _ _ h).trans (hsw_perm e)
    cases d with
    | true =>
      unfold sift at h
      split at h
      · split at h
        · obtain ⟨l, e1, h⟩ := Option.bind_eq_some_iff.mp h
          obtain ⟨r, e2, h⟩ := Option.bind_eq_some_iff.mp h
          split at h
          · exact hs h
          · exact hs h
        · exact hs h
      · exact ih _ _ _ _ _ _ h
    | false =>
      unfold sift at h
      split at h
      · obtain ⟨l, e1, h⟩ := Option.bind_eq_some_iff.mp h
        obtain ⟨r, e2, h⟩ := Option.bind_eq_some_iff.mp h
        split at h
        · exact hs h
        · split at h
          · cases h; exact List.Perm.refl _
          · exact ih _ _ _ _ _ _ h
      · split at h
        · cases h; exact List.Perm.refl _
        · exact ih _ _ _ _ _ _ h
end
open PySem PySem.Spec PyProof.Rows
theorem entry_sift : entryFor table "_heapq.heapify.sift" = some Builtin.«_heapq.heapify.sift» := entryFor_of_tree (by kernel_rfl)
theorem plain_sift : plainId "_heapq.heapify.sift" = true := by decide +kernel
abbrev lsO (us : List Value) (c : Nat) : Obj := { cls := .type "list", data := .seq us.toArray c }
section
variable {prog : Program} {w : World} {A : Around} {E : Value → Shared → Prop} {s : Shared} {l : Addr} {us : List Value} {c : Nat}
theorem upd_run {f : Array Value → Array Value} {us' : List Value} {Q : Unit → Shared → Prop} (h : s.heap.get? l = some (lsO us c)) (hf : f us.toArray = us'.toArray) (hz : us.length ≤ sizeLine) (hz' : us'.length ≤ sizeLine + 1)
    (q : ∀ h' c', h'.get? l = some (lsO us' c') → (∀ b o, b ≠ l → s.heap.get? b = some o → h'.get? b = some o) → Q () { s with heap := h' }) : wpAny (model prog w) A (updateSeq l f) Q E s := by
  refine wpAny_updateSeq h rfl ?_ (by rw [List.size_toArray]; exact hz) (by rw [hf, List.size_toArray]; exact hz')
  have e := PySem.IsL.update h f
  rw [hf] at e
  exact q _ _ e fun b o hb eo => (Heap.get?_update_other s.heap (Obj.mapSeq f) (Ne.symm hb)).trans eo
/-- what is compared -/
def Cmp (l : Addr) (h0 : Heap) (us : List Value) (lt : Value → Value → Bool) : Prop := ∀ (A : Around) (s : Shared), A.units < cLine → (∀ b o, b ≠ l → h0.get? b = some o → s.heap.get? b = some o) → ∀ x ∈ us, ∀ y ∈ us, Ob.RcOp .Lt A s x y (lt x y)
end
end Hq

/-! Hq2: heapq's sift, at the library's level. -/
namespace Hq
open PySem PySem.Spec PyProof.Rows
section
variable {prog : Program} {w : World} {A : Around} {E : Value → Shared → Prop} {l : Addr}
theorem wpAny_truthy_bool {M : Model} {A : Around} {E : Value → Shared → Prop} {s : Shared} {b : Bool} {Q : Bool → Shared → Prop} (h : Q b s) : wpAny M A (truthOfDropped (.bool b)) Q E s := by
  unfold truthOfDropped
  first
    | exact wpAny_pure h
    | (unfold truthy; exact wpAny_pure h)
    | (show wpAny _ _ (truthy (.bool b)) _ _ _; exact wpAny_of_eq rfl h)
theorem sift_run {R : Result → Shared → Prop} {h0 : Heap} {us0 us' : List Value} {lt : Value → Value → Bool} {result : Value} (cmp : Cmp l h0 us0 lt) (hu : A.units + 1 < cLine) (hz : us0.length ≤ sizeLine) :
    ∀ (f : Nat) (d : Bool) (pos top : Nat) (after : Int) (s : Shared) (us : List Value) (c : Nat), us.Perm us0 → (∀ b o, b ≠ l → h0.get? b = some o → s.heap.get? b = some o) → s.heap.get? l = some (lsO us c) → sift lt f d pos top after us = some us' →
    (∀ h' c', h'.get? l = some (lsO us' c') → (∀ b o, b ≠ l → h0.get? b = some o → h'.get? b = some o) → R (.ok (.ret result)) { s with heap := h' }) →
    codeAny (model prog w) A (.builtin "_heapq.heapify.sift" ⟨[.ref l, .bool false, .bool d, rawInt pos, rawInt top, result, rawInt after], []⟩) R s := by
  intro f
  induction f with
  | zero => intro d pos top after s us c hp hk h hf q; cases hf
  | succ f ih =>
    intro d pos top after s us c hp hk h hf q
    have hz2 : us.length ≤ sizeLine := by rw [hp.length_eq]; exact hz
    refine codeAny_builtin entry_sift ?_
    rw [Around.under_plainId plain_sift _]
    unfold Builtin.«_heapq.heapify.sift»
    dsimp only [rawInt]
    refine wpAny_bind ?_
    wp_delta
    refine wpAny_bind (wpAny_seqItems h rfl ?_)
    refine wpAny_pure ?_
    simp only [Int.toNat_natCast, List.size_toArray, Bool.false_eq_true, if_false]
    cases d with
    | true =>
      simp only [if_true]
      unfold sift at hf
      split at hf
      · rename_i hpos
        rw [if_pos hpos]
        split at hf
        · rename_i hlr
          rw [if_pos hlr]
          obtain ⟨x, f_x, hf⟩ := Option.bind_eq_some_iff.mp hf
          obtain ⟨y, f_y, hf⟩ := Option.bind_eq_some_iff.mp hf
          have f_x' : us.toArray[2 * pos + 1]? = some x := by rw [List.getElem?_toArray]; exact f_x
          have xm : x ∈ us0 := hp.mem_iff.mp (List.mem_of_getElem? f_x)
          have f_y' : us.toArray[2 * pos + 1 + 1]? = some y := by rw [List.getElem?_toArray]; exact f_y
          have ym : y ∈ us0 := hp.mem_iff.mp (List.mem_of_getElem? f_y)
          refine wpAny_bind ?_
          wp_delta
          rw [f_x']
          refine wpAny_pure ?_
          refine wpAny_bind ?_
          wp_delta
          rw [f_y']
          refine wpAny_pure ?_
          refine wpAny_bind ?_
          wp_delta
          refine wpAny_bind (wpAny_holding (wpAny_bind (cmp A.in1 s (show A.units + 1 < cLine from hu) hk x xm y ym prog w _ _ ?_)))
          refine wpAny_truthy_bool (b := lt x y) ?_
          refine wpAny_bind ?_
          wp_delta
          refine wpAny_bind (wpAny_seqItems h rfl ?_)
          refine wpAny_pure ?_
          rw [if_neg (by simp)]
          refine wpAny_pure ?_
          have hpl : pos < us.length := by omega
          have f_p : us[pos]? = some us[pos] := List.getElem?_eq_getElem hpl
          have f_p' : us.toArray[pos]? = some us[pos] := by rw [List.getElem?_toArray]; exact f_p
          split at hf
          · rename_i hl
            rw [hl]
            simp only [Bool.not_true, Bool.false_eq_true, if_false]
            refine wpAny_bind ?_
            wp_delta
            refine wpAny_bind ?_
            wp_delta
            refine wpAny_bind (wpAny_seqItems h rfl ?_)
            refine wpAny_pure ?_
            refine wpAny_bind ?_
            wp_delta
            rw [f_x']
            refine wpAny_pure ?_
            refine wpAny_bind ?_
            wp_delta
            rw [f_p']
            refine wpAny_pure ?_
            refine upd_run h (us' := (us.set (2 * pos + 1) us[pos]).set (pos) x) (by simp) hz2 (by rw [List.length_set, List.length_set]; omega) fun h1 c1 e1 k1 => ?_
            wp_delta
            have hsw1 : hsw us (2 * pos + 1) (pos) = some ((us.set (2 * pos + 1) us[pos]).set (pos) x) := by unfold hsw; rw [f_x, Option.bind_some, f_p, Option.bind_some]
            rw [hsw1, Option.bind_some] at hf
            exact wpAny_pure ⟨plainId_quiet plain_sift _, ih _ _ _ _ _ _ c1 ((hsw_perm hsw1).trans hp) (fun b o hb eo => k1 b o hb (hk b o hb eo)) e1 hf q⟩
          · rename_i hl
            rw [show lt x y = false from Bool.eq_false_iff.mpr hl]
            simp only [Bool.not_false, if_true]
            refine wpAny_bind ?_
            wp_delta
            refine wpAny_bind ?_
            wp_delta
            refine wpAny_bind (wpAny_seqItems h rfl ?_)
            refine wpAny_pure ?_
            refine wpAny_bind ?_
            wp_delta
            rw [f_y']
            refine wpAny_pure ?_
            refine wpAny_bind ?_
            wp_delta
            rw [f_p']
            refine wpAny_pure ?_
            refine upd_run h (us' := (us.set (2 * pos + 1 + 1) us[pos]).set (pos) y) (by simp) hz2 (by rw [List.length_set, List.length_set]; omega) fun h1 c1 e1 k1 => ?_
            wp_delta
            have hsw1 : hsw us (2 * pos + 1 + 1) (pos) = some ((us.set (2 * pos + 1 + 1) us[pos]).set (pos) y) := by unfold hsw; rw [f_y, Option.bind_some, f_p, Option.bind_some]
            rw [hsw1, Option.bind_some] at hf
            exact wpAny_pure ⟨plainId_quiet plain_sift _, ih _ _ _ _ _ _ c1 ((hsw_perm hsw1).trans hp) (fun b o hb eo => k1 b o hb (hk b o hb eo)) e1 hf q⟩
        · rename_i hlr
          rw [if_neg hlr]
          have hxl : 2 * pos + 1 < us.length := by omega
          have f_x : us[2 * pos + 1]? = some us[2 * pos + 1] := List.getElem?_eq_getElem hxl
          have f_x' : us.toArray[2 * pos + 1]? = some us[2 * pos + 1] := by rw [List.getElem?_toArray]; exact f_x
          have hpl : pos < us.length := by omega
          have f_p : us[pos]? = some us[pos] := List.getElem?_eq_getElem hpl
          have f_p' : us.toArray[pos]? = some us[pos] := by rw [List.getElem?_toArray]; exact f_p
          refine wpAny_bind ?_
          wp_delta
          refine wpAny_bind ?_
          wp_delta
          refine wpAny_bind (wpAny_seqItems h rfl ?_)
          refine wpAny_pure ?_
          refine wpAny_bind ?_
          wp_delta
          rw [f_x']
          refine wpAny_pure ?_
          refine wpAny_bind ?_
          wp_delta
          rw [f_p']
          refine wpAny_pure ?_
          refine upd_run h (us' := (us.set (2 * pos + 1) us[pos]).set (pos) us[2 * pos + 1]) (by simp) hz2 (by rw [List.length_set, List.length_set]; omega) fun h1 c1 e1 k1 => ?_
          wp_delta
          have hsw1 : hsw us (2 * pos + 1) (pos) = some ((us.set (2 * pos + 1) us[pos]).set (pos) us[2 * pos + 1]) := by unfold hsw; rw [f_x, Option.bind_some, f_p, Option.bind_some]
          rw [hsw1, Option.bind_some] at hf
          exact wpAny_pure ⟨plainId_quiet plain_sift _, ih _ _ _ _ _ _ c1 ((hsw_perm hsw1).trans hp) (fun b o hb eo => k1 b o hb (hk b o hb eo)) e1 hf q⟩
      · rename_i hpos
        rw [if_neg hpos]
        wp_delta
        exact wpAny_pure ⟨plainId_quiet plain_sift _, ih _ _ _ _ _ _ c hp hk h hf q⟩
    | false =>
      simp only [Bool.false_eq_true, if_false]
      unfold sift at hf
      split at hf
      · rename_i hpos
        rw [if_pos hpos]
        obtain ⟨x, f_x, hf⟩ := Option.bind_eq_some_iff.mp hf
        obtain ⟨y, f_y, hf⟩ := Option.bind_eq_some_iff.mp hf
        have f_x' : us.toArray[pos]? = some x := by rw [List.getElem?_toArray]; exact f_x
        have xm : x ∈ us0 := hp.mem_iff.mp (List.mem_of_getElem? f_x)
        have f_y' : us.toArray[(pos - 1) / 2]? = some y := by rw [List.getElem?_toArray]; exact f_y
        have ym : y ∈ us0 := hp.mem_iff.mp (List.mem_of_getElem? f_y)
        refine wpAny_bind ?_
        wp_delta
        rw [f_x']
        refine wpAny_pure ?_
        refine wpAny_bind ?_
        wp_delta
        rw [f_y']
        refine wpAny_pure ?_
        refine wpAny_bind ?_
        wp_delta
        refine wpAny_bind (wpAny_holding (wpAny_bind (cmp A.in1 s (show A.units + 1 < cLine from hu) hk x xm y ym prog w _ _ ?_)))
        refine wpAny_truthy_bool (b := lt x y) ?_
        refine wpAny_bind ?_
        wp_delta
        refine wpAny_bind (wpAny_seqItems h rfl ?_)
        refine wpAny_pure ?_
        rw [if_neg (by simp)]
        refine wpAny_pure ?_
        split at hf
        · rename_i hl
          rw [if_pos hl]
          refine wpAny_bind ?_
          wp_delta
          refine wpAny_bind ?_
          wp_delta
          refine wpAny_bind (wpAny_seqItems h rfl ?_)
          refine wpAny_pure ?_
          refine wpAny_bind ?_
          wp_delta
          rw [f_y']
          refine wpAny_pure ?_
          refine wpAny_bind ?_
          wp_delta
          rw [f_x']
          refine wpAny_pure ?_
          refine upd_run h (us' := (us.set ((pos - 1) / 2) x).set (pos) y) (by simp) hz2 (by rw [List.length_set, List.length_set]; omega) fun h1 c1 e1 k1 => ?_
          wp_delta
          have hsw1 : hsw us ((pos - 1) / 2) (pos) = some ((us.set ((pos - 1) / 2) x).set (pos) y) := by unfold hsw; rw [f_y, Option.bind_some, f_x, Option.bind_some]
          rw [hsw1, Option.bind_some] at hf
          exact wpAny_pure ⟨plainId_quiet plain_sift _, ih _ _ _ _ _ _ c1 ((hsw_perm hsw1).trans hp) (fun b o hb eo => k1 b o hb (hk b o hb eo)) e1 hf q⟩
        · rename_i hl
          rw [if_neg hl]
          split at hf
          · rename_i ha
            cases hf
            rw [if_pos ha]
            exact wpAny_pure (q _ c h hk)
          · rename_i ha
            rw [if_neg ha]
            wp_delta
            have ea : ((after.toNat : Nat) : Int) = after := Int.toNat_of_nonneg (by omega)
            exact wpAny_pure ⟨plainId_quiet plain_sift _, ih _ _ _ _ _ _ c hp hk h hf q⟩
      · rename_i hpos
        rw [if_neg hpos]
        split at hf
        · rename_i ha
          cases hf
          rw [if_pos ha]
          exact wpAny_pure (q _ c h hk)
        · rename_i ha
          rw [if_neg ha]
          wp_delta
          have ea : ((after.toNat : Nat) : Int) = after := Int.toNat_of_nonneg (by omega)
          exact wpAny_pure ⟨plainId_quiet plain_sift _, ih _ _ _ _ _ _ c hp hk h hf q⟩
end
end Hq

/-! Hq3: heappush, heappop, heapify, at the library's level. -/
namespace Hq
def fuelH (n : Nat) : Nat := (n + 4) * (n + 4) * 4
def pushH {α : Type} (lt : α → α → Bool) (xs : List α) (x : α) : Option (List α) := sift lt (fuelH xs.length) false xs.length 0 (-1) (xs ++ [x])
def popH {α : Type} (lt : α → α → Bool) (xs : List α) : Option (α × List α) := match xs with
  | [] => none
  | [x] => some (x, [])
  | x :: y :: r => ((x :: y :: r)[(x :: y :: r).length - 1]?).bind fun last => (sift lt (fuelH (r.length + 2)) true 0 0 (-1) (((x :: y :: r).dropLast).set 0 last)).map fun ys => (x, ys)
def ifyH {α : Type} (lt : α → α → Bool) (xs : List α) : Option (List α) := if xs.length > 2500 then none else if xs.length < 2 then some xs else sift lt (fuelH xs.length) true (xs.length / 2 - 1) (xs.length / 2 - 1) ((xs.length / 2 : Nat) - 2 : Int) xs
section
variable {α β : Type} (f : α → β) {lt : α → α → Bool} {lt' : β → β → Bool}
theorem pushH_map (xs : List α) (x : α) (h : ∀ a ∈ xs ++ [x], ∀ b ∈ xs ++ [x], lt' (f a) (f b) = lt a b) : pushH lt' (xs.map f) (f x) = (pushH lt xs x).map (List.map f) := by
  unfold pushH
  rw [List.length_map, ← sift_mapM f _ _ _ _ _ _ h, List.map_append, List.map_singleton]
theorem popH_map (xs : List α) (h : ∀ a ∈ xs, ∀ b ∈ xs, lt' (f a) (f b) = lt a b) : popH lt' (xs.map f) = (popH lt xs).map fun p => (f p.1, p.2.map f) := by
  cases xs with
  | nil => rfl
  | cons x xs =>
    cases xs with
    | nil => rfl
    | cons y r =>
      show ((((f x :: f y :: r.map f))[(f x :: f y :: r.map f).length - 1]?).bind fun last => (sift lt' (fuelH ((r.map f).length + 2)) true 0 0 (-1) (((f x :: f y :: r.map f).dropLast).set 0 last)).map fun ys => (f x, ys)) = _
      have e : (f x :: f y :: r.map f) = (x :: y :: r).map f := rfl
      rw [e, List.length_map, List.length_map, List.getElem?_map]
      unfold popH
      cases q : (x :: y :: r)[(x :: y :: r).length - 1]? with
      | none => simp only [q]; rfl
      | some last =>
        simp only [q, Option.map_some, Option.bind_some]
        have mem : ∀ z ∈ ((x :: y :: r).dropLast).set 0 last, z ∈ x :: y :: r := fun z hz => by
          rcases List.mem_or_eq_of_mem_set hz with hz | hz
          · exact List.dropLast_subset _ hz
          · rw [hz]; exact List.mem_of_getElem? q
        rw [← List.map_dropLast, ← List.map_set, sift_mapM f _ _ _ _ _ _ fun a ha b hb => h a (mem a ha) b (mem b hb)]
        cases q2 : sift lt (fuelH (r.length + 2)) true 0 0 (-1) (((x :: y :: r).dropLast).set 0 last) with
        | none => rfl
        | some z => rfl
theorem ifyH_map (xs : List α) (h : ∀ a ∈ xs, ∀ b ∈ xs, lt' (f a) (f b) = lt a b) : ifyH lt' (xs.map f) = (ifyH lt xs).map (List.map f) := by
  unfold ifyH
  rw [List.length_map]
  split
  · rfl
  · split
    · rfl
    · exact sift_mapM f _ _ _ _ _ _ h
end
open PySem PySem.Spec PyProof.Rows
theorem entry_push : entryFor table "_heapq.heappush" = some Builtin.«_heapq.heappush» := entryFor_of_tree (by kernel_rfl)
theorem entry_pop : entryFor table "_heapq.heappop" = some Builtin.«_heapq.heappop» := entryFor_of_tree (by kernel_rfl)
theorem entry_ify : entryFor table "_heapq.heapify" = some Builtin.«_heapq.heapify» := entryFor_of_tree (by kernel_rfl)
theorem plain_push : plainId "_heapq.heappush" = true := by decide +kernel
theorem plain_pop : plainId "_heapq.heappop" = true := by decide +kernel
theorem plain_ify : plainId "_heapq.heapify" = true := by decide +kernel
theorem chk_push (a b : Value) : checkBuiltinCall "_heapq.heappush" ⟨[a, b], []⟩ = pure () := by first | kernel_rfl | rfl
theorem chk_pop (a : Value) : checkBuiltinCall "_heapq.heappop" ⟨[a], []⟩ = pure () := by first | kernel_rfl | rfl
theorem chk_ify (a : Value) : checkBuiltinCall "_heapq.heapify" ⟨[a], []⟩ = pure () := by first | kernel_rfl | rfl
theorem sub_list : isSubtype (.type "list") (.type "list") = pure true := by rw [isSubtype_type]; kernel_rfl
section
variable {prog : Program} {w : World} {A : Around} {E : Value → Shared → Prop} {s : Shared} {l : Addr} {us us' : List Value} {c : Nat} {lt : Value → Value → Bool} {x : Value}
theorem push_call {Q : Value → Shared → Prop} (h : s.heap.get? l = some (lsO us c)) (hz : us.length < sizeLine) (cmp : Cmp l s.heap (us ++ [x]) lt) (hu : A.units + 1 < cLine) (hf : pushH lt us x = some us')
    (q : ∀ h' c', h'.get? l = some (lsO us' c') → (∀ b o, b ≠ l → s.heap.get? b = some o → h'.get? b = some o) → Q .none { s with heap := h' }) : wpAny (model prog w) A (call (.builtin "_heapq.heappush") [.ref l, x]) Q E s := by
  refine wpAny_call (codeAny_call_builtin plain_push entry_push (wpAny_of_eq (chk_push _ _) ?_))
  unfold Builtin.«_heapq.heappush»
  refine wpAny_bind ?_
  wp_delta
  refine wpAny_bind (wpAny_of_eq (a := ()) rfl ?_)
  refine wpAny_bind (wpAny_of_eq (a := ()) rfl ?_)
  dsimp only
  refine wpAny_bind ?_
  wp_delta
  refine wpAny_bind (wpAny_isInstance (T := "list") (b := true) ⟨_, h, rfl⟩ sub_list ?_)
  rw [if_pos rfl]
  refine wpAny_pure ?_
  refine wpAny_pure ?_
  dsimp only
  refine wpAny_bind (upd_run h (us' := us ++ [x]) (by simp) (by omega) (by rw [List.length_append, List.length_singleton]; omega) fun h1 c1 e1 k1 => ?_)
  refine wpAny_bind ?_
  wp_delta
  refine wpAny_bind (wpAny_seqItems (s := { s with heap := h1 }) e1 rfl ?_)
  refine wpAny_pure ?_
  wp_delta
  have es : (us ++ [x]).toArray.size - 1 = us.length := by simp
  rw [es]
  refine wpAny_pure ⟨plainId_quiet plain_sift _, ?_⟩
  refine sift_run (us0 := us ++ [x]) (h0 := s.heap) cmp hu (by rw [List.length_append, List.length_singleton]; omega) _ _ _ _ _ _ _ c1 (List.Perm.refl _) k1 e1 hf fun h' c' e' k' => ?_
  exact q h' c' e' k'
theorem pop_call {y : Value} {Q : Value → Shared → Prop} (h : s.heap.get? l = some (lsO us c)) (hz : us.length ≤ sizeLine) (cmp : Cmp l s.heap us lt) (hu : A.units + 1 < cLine) (hf : popH lt us = some (y, us'))
    (q : ∀ h' c', h'.get? l = some (lsO us' c') → (∀ b o, b ≠ l → s.heap.get? b = some o → h'.get? b = some o) → Q y { s with heap := h' }) : wpAny (model prog w) A (call (.builtin "_heapq.heappop") [.ref l]) Q E s := by
  refine wpAny_call (codeAny_call_builtin plain_pop entry_pop (wpAny_of_eq (chk_pop _) ?_))
  unfold Builtin.«_heapq.heappop»
  wp_delta
  refine wpAny_bind ?_
  wp_delta
  refine wpAny_bind (wpAny_of_eq (a := Value.ref l) rfl ?_)
  refine wpAny_bind ?_
  wp_delta
  refine wpAny_bind (wpAny_isInstance (T := "list") (b := true) ⟨_, h, rfl⟩ sub_list ?_)
  rw [if_pos rfl]
  refine wpAny_pure ?_
  refine wpAny_pure ?_
  dsimp only
  refine wpAny_bind ?_
  wp_delta
  refine wpAny_bind (wpAny_seqItems h rfl ?_)
  refine wpAny_pure ?_
  cases us with
  | nil => cases hf
  | cons a r =>
    cases r with
    | nil =>
      have eb : ([a] : List Value).toArray.back? = some a := rfl
      have hy : some (a, ([] : List Value)) = some (y, us') := hf
      cases hy
      rw [eb]
      dsimp only
      refine wpAny_bind (upd_run h (us' := []) (by simp) hz (by simp) fun h1 c1 e1 k1 => ?_)
      rw [if_pos (by simp)]
      exact wpAny_pure (q h1 c1 e1 k1)
    | cons b r =>
      unfold popH at hf
      obtain ⟨last, e1, hf⟩ := Option.bind_eq_some_iff.mp hf
      obtain ⟨ys, e2, hf⟩ := Option.map_eq_some_iff.mp hf
      have hy : a = y ∧ ys = us' := ⟨congrArg Prod.fst hf, congrArg Prod.snd hf⟩
      obtain ⟨hy1, hy2⟩ := hy
      subst hy2
      rw [← hy1] at q
      have eb : (a :: b :: r).toArray.back? = some last := by
        rw [Array.back?_eq_getElem?, List.size_toArray, List.getElem?_toArray]
        exact e1
      rw [eb]
      dsimp only
      have hd : (a :: b :: r).toArray.pop = ((a :: b :: r).dropLast).toArray := by simp
      have hl1 : ((a :: b :: r).dropLast).length = r.length + 1 := by simp
      rw [List.length_cons, List.length_cons] at hz
      refine wpAny_bind (upd_run h (us' := (a :: b :: r).dropLast) hd (by simpa using hz) (by rw [hl1]; omega) fun h1 c1 e3 k1 => ?_)
      rw [if_neg (by simp)]
      refine wpAny_bind ?_
      wp_delta
      refine wpAny_pure ?_
      refine wpAny_bind (upd_run (s := { s with heap := h1 }) e3 (us' := ((a :: b :: r).dropLast).set 0 last) (by simp) (by rw [hl1]; omega) (by rw [List.length_set, hl1]; omega) fun h2 c2 e4 k2 => ?_)
      wp_delta
      refine wpAny_pure ⟨plainId_quiet plain_sift _, ?_⟩
      refine sift_run (us0 := ((a :: b :: r).dropLast).set 0 last) (h0 := s.heap) (lt := lt) (fun A s hu hk x hx y hy => ?_) hu (by rw [List.length_set, hl1]; omega) _ _ _ _ _ _ _ c2 (List.Perm.refl _) (fun b o hb eo => k2 b o hb (k1 b o hb eo)) e4 e2 fun h' c' e' k' => ?_
      · have mem : ∀ z ∈ ((a :: b :: r).dropLast).set 0 last, z ∈ a :: b :: r := fun z hz => by
          rcases List.mem_or_eq_of_mem_set hz with hz | hz
          · exact List.dropLast_subset _ hz
          · rw [hz]; exact List.mem_of_getElem? e1
        exact cmp A s hu hk x (mem x hx) y (mem y hy)
      · exact q h' c' e' k'
theorem ify_call {Q : Value → Shared → Prop} (h : s.heap.get? l = some (lsO us c)) (hz : us.length ≤ sizeLine) (cmp : Cmp l s.heap us lt) (hu : A.units + 1 < cLine) (hf : ifyH lt us = some us')
    (q : ∀ h' c', h'.get? l = some (lsO us' c') → (∀ b o, b ≠ l → s.heap.get? b = some o → h'.get? b = some o) → Q .none { s with heap := h' }) : wpAny (model prog w) A (call (.builtin "_heapq.heapify") [.ref l]) Q E s := by
  refine wpAny_call (codeAny_call_builtin plain_ify entry_ify (wpAny_of_eq (chk_ify _) ?_))
  unfold Builtin.«_heapq.heapify»
  wp_delta
  refine wpAny_bind ?_
  wp_delta
  refine wpAny_bind (wpAny_of_eq (a := Value.ref l) rfl ?_)
  refine wpAny_bind ?_
  wp_delta
  refine wpAny_bind (wpAny_isInstance (T := "list") (b := true) ⟨_, h, rfl⟩ sub_list ?_)
  rw [if_pos rfl]
  refine wpAny_pure ?_
  refine wpAny_pure ?_
  dsimp only
  refine wpAny_bind ?_
  wp_delta
  refine wpAny_bind (wpAny_seqItems h rfl ?_)
  refine wpAny_pure ?_
  rw [List.size_toArray]
  unfold ifyH at hf
  split at hf
  · cases hf
  · rename_i h1
    rw [if_neg h1]
    split at hf
    · rename_i h2
      cases hf
      rw [if_pos h2]
      exact wpAny_pure (q _ c h fun b o _ e => e)
    · rename_i h2
      rw [if_neg h2]
      wp_delta
      refine wpAny_pure ⟨plainId_quiet plain_sift _, ?_⟩
      exact sift_run (us0 := us) (h0 := s.heap) cmp hu hz _ _ _ _ _ _ _ c (List.Perm.refl _) (fun b o _ e => e) h hf fun h' c' e' k' => q h' c' e' k'
end
end Hq

/-! Md8: heaps of pairs of whole numbers; sorted() of data. -/
namespace Md
open PySem PySem.Spec PyProof.Rows L2 Pd
def ltP (p q : Int × Int) : Bool := if p.1 = q.1 then decide (p.2 < q.2) else decide (p.1 < q.1)
def pD (p : Int × Int) : D := .tuple [.int p.1, .int p.2]
def pW (p : Int × Int) : W := .da (pD p)
def asP : D → Option (Int × Int)
  | .tuple [.int a, .int b] => some (a, b)
  | _ => none
def wP : W → Option (Int × Int)
  | .da d => asP d
  | _ => none
def wPs : List W → Option (List (Int × Int))
  | [] => some []
  | w :: r => (wP w).bind fun p => (wPs r).map (p :: ·)
theorem wP_of {w : W} {p : Int × Int} (h : wP w = some p) : w = pW p := by
  unfold wP at h
  split at h
  · unfold asP at h
    split at h
    · cases h; rfl
    · cases h
  · cases h
theorem wP_pW (p : Int × Int) : wP (pW p) = some p := rfl
theorem wPs_of : ∀ {ws : List W} {ps : List (Int × Int)}, wPs ws = some ps → ws = ps.map pW
  | [], _, h => by cases h; rfl
  | w :: r, _, h => by
    obtain ⟨p, e1, h⟩ := Option.bind_eq_some_iff.mp h
    obtain ⟨ps, e2, h⟩ := Option.map_eq_some_iff.mp h
    subst h
    rw [wP_of e1, wPs_of e2]
    rfl
theorem wPs_map : ∀ ps : List (Int × Int), wPs (ps.map pW) = some ps
  | [] => rfl
  | p :: ps => by
    show (wP (pW p)).bind (fun q => (wPs (ps.map pW)).map (q :: ·)) = _
    rw [wPs_map ps]; rfl
/-- the pair that stands at a value -/
def At2 (h : Heap) (u : Value) (p : Int × Int) : Prop := ∃ a t1 t2, u = .ref a ∧ h.IsTuple a #[.int p.1 t1, .int p.2 t2]
theorem At2.inj {h : Heap} {u : Value} {p q : Int × Int} (a : At2 h u p) (b : At2 h u q) : p = q := by
  obtain ⟨x, t1, t2, e1, o, h1, _, n, d1⟩ := a
  obtain ⟨y, t3, t4, e2, o', h2, _, n', d2⟩ := b
  rw [e1] at e2
  cases e2
  rw [h1] at h2
  cases h2
  rw [d1] at d2
  have := (Data.seq.inj d2).1
  have e3 : (#[Value.int p.1 t1, .int p.2 t2] : Array Value).toList = (#[Value.int q.1 t3, .int q.2 t4] : Array Value).toList := by rw [this]
  simp only [List.cons.injEq, Value.int.injEq] at e3
  exact Prod.ext e3.1.1 e3.2.1.1
open Classical in
noncomputable def key2 (h : Heap) (u : Value) : Int × Int := if e : ∃ p, At2 h u p then choose e else (0, 0)
theorem key2_of {h : Heap} {u : Value} {p : Int × Int} (a : At2 h u p) : key2 h u = p := by
  have e : ∃ p, At2 h u p := ⟨p, a⟩
  unfold key2
  rw [dif_pos e]
  exact At2.inj (Classical.choose_spec e) a
theorem lt2_run {A : Around} {s : Shared} {x y : Value} {p q : Int × Int} (hx : At2 s.heap x p) (hy : At2 s.heap y q) (hu : A.units < cLine) : Ob.RcOp .Lt A s x y (ltP p q) := by
  obtain ⟨a, t1, t2, rfl, h1⟩ := hx
  obtain ⟨b, t3, t4, rfl, h2⟩ := hy
  have R := Ob.RcOp.tuples_lt (A := A) (s := s) (e := fun j => decide ([p.1, p.2].getD j 0 = [q.1, q.2].getD j 0)) (r := fun j => decide ([p.1, p.2].getD j 0 < [q.1, q.2].getD j 0)) h1 h2 hu (fun j j1 j2 => by
    have hj : j < 2 := j1
    match j, hj with
    | 0, _ =>
      have z : (p.1 == q.1) = decide (p.1 = q.1) := by
        by_cases e : p.1 = q.1
        · rw [decide_eq_true e]; exact beq_iff_eq.mpr e
        · rw [decide_eq_false e]; exact beq_eq_false_iff_ne.mpr e
      show SeqAt.EqAt A.in1 s (.int p.1 t1) (.int q.1 t3) (decide (p.1 = q.1))
      rw [← z]
      exact SeqAt.EqAt.int_int _ _ _ _
    | 1, _ =>
      have z : (p.2 == q.2) = decide (p.2 = q.2) := by
        by_cases e : p.2 = q.2
        · rw [decide_eq_true e]; exact beq_iff_eq.mpr e
        · rw [decide_eq_false e]; exact beq_eq_false_iff_ne.mpr e
      show SeqAt.EqAt A.in1 s (.int p.2 t2) (.int q.2 t4) (decide (p.2 = q.2))
      rw [← z]
      exact SeqAt.EqAt.int_int _ _ _ _) (fun j j1 j2 _ => by
    have hj : j < 2 := j1
    match j, hj with
    | 0, _ => exact Ob.RcOp.lt_int _ _ _ _
    | 1, _ => exact Ob.RcOp.lt_int _ _ _ _)
  have e : Ob.lexAt (fun j => decide ([p.1, p.2].getD j 0 = [q.1, q.2].getD j 0)) (fun j => decide ([p.1, p.2].getD j 0 < [q.1, q.2].getD j 0)) (decide ((#[Value.int p.1 t1, .int p.2 t2] : Array Value).size < (#[Value.int q.1 t3, .int q.2 t4] : Array Value).size)) 0 (min (#[Value.int p.1 t1, .int p.2 t2] : Array Value).size (#[Value.int q.1 t3, .int q.2 t4] : Array Value).size) = ltP p q := by
    show Ob.lexAt _ _ _ 0 2 = _
    unfold Ob.lexAt ltP
    by_cases h : p.1 = q.1
    · rw [if_pos h, if_pos (by simpa using h)]
      show Ob.lexAt _ _ _ 1 1 = _
      unfold Ob.lexAt
      by_cases h2 : p.2 = q.2
      · rw [if_pos (by simpa using h2)]
        show decide (2 < 2) = decide (p.2 < q.2)
        rw [decide_eq_false (by omega), decide_eq_false (by omega)]
      · rw [if_neg (by simpa using h2)]
        rfl
    · rw [if_neg h, if_neg (by simpa using h)]
      rfl
  rw [e] at R
  exact R
/-! ### the rules by values -/
abbrev T3 := Value × V × (Int × Int)
/-- v is a pair's tuple -/
def Pr2 (K : PySem.W.Frag) (H : Hp) (v : V) (p : Int × Int) : Prop := ∃ a, v = .ref a ∧ SqT K H a [.int p.1, .int p.2]
section
variable {X : Cx} {pins : List (Addr × Obj)} {σ : St} {H : Hp} {s : Shared}
theorem at2_of (I : Inv X pins σ H s) {v : V} {u : Value} {p : Int × Int} (h : Pr2 X.K H v p) (r : RelV v u) : At2 s.heap u p := by
  obtain ⟨a, rfl, ht⟩ := h
  obtain rfl : u = .ref a := r
  obtain ⟨its, rv, q, _⟩ := I.tuple ht
  cases rv with
  | cons r1 rv =>
    cases rv with
    | cons r2 rv =>
      cases rv
      obtain ⟨t1, rfl⟩ := r1
      obtain ⟨t2, rfl⟩ := r2
      exact ⟨a, t1, t2, rfl, q⟩
theorem triple (I : Inv X pins σ H s) : ∀ {vs : List V} {us : List Value} {ps : List (Int × Int)}, Vals vs us → Paired (Pr2 X.K H) vs ps → ∃ ts : List T3, us = ts.map (·.1) ∧ vs = ts.map (·.2.1) ∧ ps = ts.map (·.2.2) ∧ ∀ t ∈ ts, RelV t.2.1 t.1 ∧ Pr2 X.K H t.2.1 t.2.2 ∧ At2 s.heap t.1 t.2.2
  | _, _, _, .nil, .nil => ⟨[], rfl, rfl, rfl, by simp⟩
  | _, _, _, .cons (b := u) r rs, .cons (b := p) q qs => by
    obtain ⟨ts, e1, e2, e3, h⟩ := triple I rs qs
    rename_i v _ _ _
    refine ⟨(u, v, p) :: ts, by rw [e1]; rfl, by rw [e2]; rfl, by rw [e3]; rfl, fun t ht => ?_⟩
    rcases List.mem_cons.mp ht with rfl | ht
    · exact ⟨r, q, at2_of I q r⟩
    · exact h t ht
theorem vals_of {ts : List T3} (h : ∀ t ∈ ts, RelV t.2.1 t.1) : Vals (ts.map (·.2.1)) (ts.map (·.1)) := by
  induction ts with
  | nil => exact .nil
  | cons t ts ih => exact .cons (h t List.mem_cons_self) (ih fun x hx => h x (List.mem_cons_of_mem _ hx))
theorem prs_of {K : PySem.W.Frag} {ts : List T3} (h : ∀ t ∈ ts, Pr2 K H t.2.1 t.2.2) : Paired (Pr2 K H) (ts.map (·.2.1)) (ts.map (·.2.2)) := by
  induction ts with
  | nil => exact .nil
  | cons t ts ih => exact .cons (h t List.mem_cons_self) (ih fun x hx => h x (List.mem_cons_of_mem _ hx))
theorem cmp_of {l : Addr} {c : Nat} {us0 : List Value} {ts : List T3} (hl : s.heap.get? l = some (Hq.lsO us0 c)) (h : ∀ t ∈ ts, At2 s.heap t.1 t.2.2) : Hq.Cmp l s.heap (ts.map (·.1)) fun x y => ltP (key2 s.heap x) (key2 s.heap y) := by
  intro A s' hu hk x hx y hy
  obtain ⟨t, ht, rfl⟩ := List.mem_map.mp hx
  obtain ⟨t', ht', rfl⟩ := List.mem_map.mp hy
  have mv : ∀ {u p}, At2 s.heap u p → At2 s'.heap u p := fun {u p} ⟨a, t1, t2, e, o, e1, e2, e3⟩ => by
    refine ⟨a, t1, t2, e, o, hk a o (fun z => ?_) e1, e2, e3⟩
    subst z
    rw [hl] at e1
    cases e1
    exact absurd e2 (by show ¬ (Value.type "list" = Value.type "tuple"); decide)
  show Ob.RcOp .Lt A s' t.1 t'.1 (ltP (key2 s.heap t.1) (key2 s.heap t'.1))
  rw [key2_of (h t ht), key2_of (h t' ht')]
  exact lt2_run (mv (h t ht)) (mv (h t' ht')) hu
theorem key_eq {ts : List T3} (h : ∀ t ∈ ts, At2 s.heap t.1 t.2.2) : ∀ a ∈ ts, ∀ b ∈ ts, (fun x y => ltP (key2 s.heap x) (key2 s.heap y)) a.1 b.1 = ltP a.2.2 b.2.2 := fun a ha b hb => by
  show ltP (key2 s.heap a.1) (key2 s.heap b.1) = _
  rw [key2_of (h a ha), key2_of (h b hb)]
theorem ls_write {l : Addr} {c' : Nat} {vs vs' : List V} {us' : List Value} {h' : Heap} (I : Inv X pins σ H s) (hH : H l = some (.lst vs)) (kk : ∀ b o, b ≠ l → s.heap.get? b = some o → h'.get? b = some o) (new : h'.get? l = some (Hq.lsO us' c')) (r : Vals vs' us') (hz : vs'.length ≤ sizeLine) :
    Inv X pins σ (upd H l (.lst vs')) { s with heap := h', toks := s.toks } :=
  I.write (by rw [hH]; exact True.intro) (.inl rfl) (fun b u hb hu => kk b u hb hu) ⟨_, new⟩ ⟨hz, us', c', r, new⟩
end
section
variable {X : Cx}
def rHpush (K : PySem.W.Frag) : List V → Hp → VK → Prop := fun xs H Q => ∃ l v vs ps p ps', xs = [V.ref l, v] ∧ H l = some (.lst vs) ∧ Paired (Pr2 K H) vs ps ∧ Pr2 K H v p ∧ vs.length < sizeLine ∧ Hq.pushH ltP ps p = some ps' ∧
  ∀ vs', Paired (fun v' p' => (v', p') ∈ (vs ++ [v]).zip (ps ++ [p])) vs' ps' → Q .non (upd H l (.lst vs'))
theorem mem_zip_of {α β γ : Type} (f : γ → α) (g : γ → β) {ts : List γ} {t : γ} (h : t ∈ ts) : (f t, g t) ∈ (ts.map f).zip (ts.map g) := by
  rw [List.zip_map']
  exact List.mem_map.mpr ⟨t, h, rfl⟩
theorem paired_mem {ts ts' : List T3} (h : ∀ t ∈ ts', t ∈ ts) : Paired (fun v' p' => (v', p') ∈ (ts.map (·.2.1)).zip (ts.map (·.2.2))) (ts'.map (·.2.1)) (ts'.map (·.2.2)) := by
  induction ts' with
  | nil => exact .nil
  | cons t ts' ih => exact .cons (mem_zip_of (fun t : T3 => t.2.1) (fun t : T3 => t.2.2) (h t List.mem_cons_self)) (ih fun x hx => h x (List.mem_cons_of_mem _ hx))
theorem call_hpush (hu : X.A.units + 1 < cLine) : CallR X (.builtin "_heapq.heappush") (rHpush X.K) := by
  intro pins s σ H xs us Q I rs h
  obtain ⟨l, v, vs, ps, p, ps', rfl, hH, hp, hv, hz, hf, q⟩ := h
  obtain ⟨u1, u2, rfl, r1, r2⟩ := Vals.two rs
  obtain rfl : u1 = .ref l := r1
  obtain ⟨hzl, its, n, rv, hl, e⟩ := I.lstM hH
  obtain ⟨ts, e1, e2, e3, ht⟩ := triple I (rv.append (.cons r2 .nil)) (pr_append hp (.cons hv .nil))
  have hcmp : Hq.Cmp l s.heap (its ++ [u2]) fun x y => ltP (key2 s.heap x) (key2 s.heap y) := by
    rw [e1]; exact cmp_of e fun t h => (ht t h).2.2
  -- the triples by their pairs
  let lt3 : T3 → T3 → Bool := fun a b => ltP a.2.2 b.2.2
  obtain ⟨tl, th, etl⟩ : ∃ tl th, ts = tl ++ [th] := by
    rcases List.eq_nil_or_concat ts with z | ⟨a, b, z⟩
    · rw [z] at e1; simp at e1
    · exact ⟨a, b, by rw [z]; simp⟩
  subst etl
  rw [List.map_append] at e1 e2 e3
  have i1 : its = tl.map (·.1) ∧ [u2] = [th].map (·.1) := List.append_inj' e1 rfl
  have i2 : vs = tl.map (·.2.1) ∧ [v] = [th].map (·.2.1) := List.append_inj' e2 rfl
  have i3 : ps = tl.map (·.2.2) ∧ [p] = [th].map (·.2.2) := List.append_inj' e3 rfl
  obtain ⟨i1, i1'⟩ := i1
  obtain ⟨i2, i2'⟩ := i2
  obtain ⟨i3, i3'⟩ := i3
  have j1 : u2 = th.1 := by simpa using i1'
  have j2 : v = th.2.1 := by simpa using i2'
  have j3 : p = th.2.2 := by simpa using i3'
  have fP := Hq.pushH_map (f := fun t : T3 => t.2.2) (lt := lt3) (lt' := ltP) tl th (fun _ _ _ _ => rfl)
  have fV := Hq.pushH_map (f := fun t : T3 => t.1) (lt := lt3) (lt' := fun x y => ltP (key2 s.heap x) (key2 s.heap y)) tl th (fun a ha b hb => key_eq (s := s) (fun t h => (ht t h).2.2) a ha b hb)
  rw [← i3, ← j3, hf] at fP
  obtain ⟨ts', f1, f2⟩ := Option.map_eq_some_iff.mp fP.symm
  rw [← i1, ← j1, f1] at fV
  have sub : ∀ t ∈ ts', t ∈ tl ++ [th] := fun t h => (Hq.sift_perm _ _ _ _ _ _ _ f1).mem_iff.mp h
  have plen : ts'.length = vs.length + 1 := by
    rw [(Hq.sift_perm _ _ _ _ _ _ _ f1).length_eq, List.length_append, List.length_singleton, i2, List.length_map]
  refine Hq.push_call e (by rw [← hl]; exact hz) hcmp hu fV fun h' c' e' k' => ?_
  refine ⟨.non, _, ls_write I hH k' e' (vals_of fun t h => (ht t (sub t h)).1) (by rw [List.length_map, plen]; omega), rfl, ?_⟩
  refine q _ ?_
  rw [← f2, i2, i3, j2, j3]
  have := paired_mem (ts := tl ++ [th]) (ts' := ts') sub
  rw [List.map_append, List.map_append] at this
  exact this
def rHpop (K : PySem.W.Frag) : List V → Hp → VK → Prop := fun xs H Q => ∃ l vs ps p ps', xs = [V.ref l] ∧ H l = some (.lst vs) ∧ Paired (Pr2 K H) vs ps ∧ Hq.popH ltP ps = some (p, ps') ∧
  ∀ v vs', (v, p) ∈ vs.zip ps → Paired (fun v' p' => (v', p') ∈ vs.zip ps) vs' ps' → Q v (upd H l (.lst vs'))
theorem popH_mem {α : Type} {lt : α → α → Bool} {xs ys : List α} {y : α} (h : Hq.popH lt xs = some (y, ys)) : y ∈ xs ∧ ys.length ≤ xs.length ∧ ∀ z ∈ ys, z ∈ xs := by
  unfold Hq.popH at h
  split at h
  · cases h
  · cases h; simp
  · rename_i a b r
    obtain ⟨last, e1, h⟩ := Option.bind_eq_some_iff.mp h
    obtain ⟨zs, e2, h⟩ := Option.map_eq_some_iff.mp h
    have h1 : a = y := congrArg Prod.fst h
    have h2 : zs = ys := congrArg Prod.snd h
    subst h1 h2
    have pm := Hq.sift_perm _ _ _ _ _ _ _ e2
    refine ⟨List.mem_cons_self, by rw [pm.length_eq]; simp, fun z hz => ?_⟩
    rcases List.mem_or_eq_of_mem_set (pm.mem_iff.mp hz) with hz | hz
    · exact List.dropLast_subset _ hz
    · rw [hz]; exact List.mem_of_getElem? e1
theorem call_hpop (hu : X.A.units + 1 < cLine) : CallR X (.builtin "_heapq.heappop") (rHpop X.K) := by
  intro pins s σ H xs us Q I rs h
  obtain ⟨l, vs, ps, p, ps', rfl, hH, hp, hf, q⟩ := h
  obtain ⟨u1, rfl, r1⟩ := vals1 rs
  obtain rfl : u1 = .ref l := r1
  obtain ⟨hzl, its, n, rv, hl, e⟩ := I.lstM hH
  obtain ⟨ts, i1, i2, i3, ht⟩ := triple I rv hp
  have hcmp : Hq.Cmp l s.heap its fun x y => ltP (key2 s.heap x) (key2 s.heap y) := by
    rw [i1]; exact cmp_of e fun t h => (ht t h).2.2
  let lt3 : T3 → T3 → Bool := fun a b => ltP a.2.2 b.2.2
  have fP := Hq.popH_map (f := fun t : T3 => t.2.2) (lt := lt3) (lt' := ltP) ts (fun _ _ _ _ => rfl)
  have fV := Hq.popH_map (f := fun t : T3 => t.1) (lt := lt3) (lt' := fun x y => ltP (key2 s.heap x) (key2 s.heap y)) ts (fun a ha b hb => key_eq (s := s) (fun t h => (ht t h).2.2) a ha b hb)
  rw [← i3, hf] at fP
  obtain ⟨⟨t0, ts'⟩, f1, f2⟩ := Option.map_eq_some_iff.mp fP.symm
  have g1 : t0.2.2 = p := congrArg Prod.fst f2
  have g2 : ts'.map (·.2.2) = ps' := congrArg Prod.snd f2
  rw [← i1, f1] at fV
  obtain ⟨m1, m2, m3⟩ := popH_mem f1
  refine Hq.pop_call e (by rw [← hl]; exact hzl) hcmp hu fV fun h' c' e' k' => ?_
  have hlen : ts.length = vs.length := by rw [i2, List.length_map]
  refine ⟨t0.2.1, _, ls_write (vs' := ts'.map (·.2.1)) I hH k' e' (vals_of fun t h => (ht t (m3 t h)).1) (by rw [List.length_map]; omega), (ht t0 m1).1, ?_⟩
  refine q _ _ ?_ ?_
  · rw [← g1, i2, i3]
    exact mem_zip_of (fun t : T3 => t.2.1) (fun t : T3 => t.2.2) m1
  · rw [← g2, i2, i3]
    exact paired_mem m3
def rHify (K : PySem.W.Frag) : List V → Hp → VK → Prop := fun xs H Q => ∃ l vs ps ps', xs = [V.ref l] ∧ H l = some (.lst vs) ∧ Paired (Pr2 K H) vs ps ∧ Hq.ifyH ltP ps = some ps' ∧
  ∀ vs', Paired (fun v' p' => (v', p') ∈ vs.zip ps) vs' ps' → Q .non (upd H l (.lst vs'))
theorem ifyH_perm {α : Type} {lt : α → α → Bool} {xs ys : List α} (h : Hq.ifyH lt xs = some ys) : ys.Perm xs := by
  unfold Hq.ifyH at h
  split at h
  · cases h
  · split at h
    · cases h; exact List.Perm.refl _
    · exact Hq.sift_perm _ _ _ _ _ _ _ h
theorem call_hify (hu : X.A.units + 1 < cLine) : CallR X (.builtin "_heapq.heapify") (rHify X.K) := by
  intro pins s σ H xs us Q I rs h
  obtain ⟨l, vs, ps, ps', rfl, hH, hp, hf, q⟩ := h
  obtain ⟨u1, rfl, r1⟩ := vals1 rs
  obtain rfl : u1 = .ref l := r1
  obtain ⟨hzl, its, n, rv, hl, e⟩ := I.lstM hH
  obtain ⟨ts, i1, i2, i3, ht⟩ := triple I rv hp
  have hcmp : Hq.Cmp l s.heap its fun x y => ltP (key2 s.heap x) (key2 s.heap y) := by
    rw [i1]; exact cmp_of e fun t h => (ht t h).2.2
  let lt3 : T3 → T3 → Bool := fun a b => ltP a.2.2 b.2.2
  have fP := Hq.ifyH_map (f := fun t : T3 => t.2.2) (lt := lt3) (lt' := ltP) ts (fun _ _ _ _ => rfl)
  have fV := Hq.ifyH_map (f := fun t : T3 => t.1) (lt := lt3) (lt' := fun x y => ltP (key2 s.heap x) (key2 s.heap y)) ts (fun a ha b hb => key_eq (s := s) (fun t h => (ht t h).2.2) a ha b hb)
  rw [← i3, hf] at fP
  obtain ⟨ts', f1, f2⟩ := Option.map_eq_some_iff.mp fP.symm
  rw [← i1, f1] at fV
  have pm := ifyH_perm f1
  have m3 : ∀ t ∈ ts', t ∈ ts := fun t h => pm.mem_iff.mp h
  refine Hq.ify_call e (by rw [← hl]; exact hzl) hcmp hu fV fun h' c' e' k' => ?_
  have hlen : ts.length = vs.length := by rw [i2, List.length_map]
  refine ⟨.non, _, ls_write (vs' := ts'.map (·.2.1)) I hH k' e' (vals_of fun t h => (ht t (m3 t h)).1) (by rw [List.length_map, pm.length_eq]; omega), rfl, ?_⟩
  refine q _ ?_
  rw [← f2, i2, i3]
  exact paired_mem m3
variable {x : Str} {p pos : Pos} {e : Expr} {es : List Expr} {t : TA}
/-- a call of a built-in that a module's name holds -/
theorem pe_callGB {id : String} {r : List V → Hp → VK → Prop} (hc : CallR X (.builtin id) r) (hg : Gl X x) (hm : X.mg x = some (.builtin id)) (ha : PA X (e :: es) t) (hdb : (x == ("__debug__" : Str)) = false := by decide)
    (he : starEach (e :: es) X.env = (false, eval e X.env) :: starEach es X.env := by rfl) (hpl : (backTo pos (starEach es X.env)).any (·.1) = false := by rfl) : PE X (.Call (.Name x p) (e :: es) [] pos) (tCB r t) := by
  refine ⟨fun pins s σ H Q I h => ?_⟩
  refine wpAny_Call_Name_kw (ld_glob I hg hm ?_ hdb)
  exact PyProof.Rows.callWith_builtin1 (thn (ha.run pos pins s σ H _ I h) fun us s1 ⟨vs, H1, I1, r1, q1⟩ => hc pins s1 σ H1 vs us Q I1 r1 q1) he hpl
end
/-! ### over a store -/
def yHpush (m : YM (List W)) : YM W := fun ρ μ => (m ρ μ).bind fun p => match p.1 with
  | [.rf n, w] => match p.2[n]? with
    | some (.lst ws) => (wPs ws).bind fun ps => (wP w).bind fun q => if ps.length < sizeLine then (Hq.pushH ltP ps q).map fun ps' => (.da .none, p.2.set n (.lst (ps'.map pW))) else none
    | _ => none
  | _ => none
def yHpop (m : YM (List W)) : YM W := fun ρ μ => (m ρ μ).bind fun p => match p.1 with
  | [.rf n] => match p.2[n]? with
    | some (.lst ws) => (wPs ws).bind fun ps => (Hq.popH ltP ps).map fun z => (pW z.1, p.2.set n (.lst (z.2.map pW)))
    | _ => none
  | _ => none
def yHify (m : YM (List W)) : YM W := fun ρ μ => (m ρ μ).bind fun p => match p.1 with
  | [.rf n] => match p.2[n]? with
    | some (.lst ws) => (wPs ws).bind fun ps => (Hq.ifyH ltP ps).map fun ps' => (.da .none, p.2.set n (.lst (ps'.map pW)))
    | _ => none
  | _ => none
section
variable {ι : Type} {T : List (Addr × Str)} {K : PySem.W.Frag} {cl : Cf} {X : ι → Cx} {F H : Hp} {κ : List Addr} {μ : Sto} {x : Str} {e : Expr} {es : List Expr} {p pos : Pos} {m : YM (List W)}
theorem pr2_of (s : Sub T F H) {v : V} {q : Int × Int} (r : RW K F κ v (pW q)) : Pr2 K H v q := by
  cases r with
  | da r =>
    cases r with
    | tup hs ra =>
      rename_i a vs
      cases ra with
      | cons r1 ra =>
        cases ra with
        | cons r2 ra =>
          cases ra
          cases r1
          cases r2
          exact ⟨a, rfl, SqT_same s.same hs⟩
theorem prs2_of (s : Sub T F H) : ∀ {vs : List V} {ps : List (Int × Int)}, RWs K F κ vs (ps.map pW) → Paired (Pr2 K H) vs ps
  | _, [], .nil => .nil
  | _, _ :: _, .cons r rs => .cons (pr2_of s r) (prs2_of s rs)
theorem rws_zip : ∀ {vs vs0 : List V} {ps ps0 : List (Int × Int)}, RWs K F κ vs0 (ps0.map pW) → Paired (fun v' p' => (v', p') ∈ vs0.zip ps0) vs ps → RWs K F κ vs (ps.map pW) := by
  intro vs vs0 ps ps0 r h
  have at_ : ∀ {vs0 : List V} {ps0 : List (Int × Int)}, RWs K F κ vs0 (ps0.map pW) → ∀ z ∈ vs0.zip ps0, RW K F κ z.1 (pW z.2) := by
    intro vs0
    induction vs0 with
    | nil => intro ps0 _ z hz; cases hz
    | cons v vs0 ih =>
      intro ps0 r z hz
      cases ps0 with
      | nil => cases hz
      | cons p ps0 =>
        cases r with
        | cons r1 rs =>
          rcases List.mem_cons.mp hz with rfl | hz
          · exact r1
          · exact ih rs z hz
  induction h with
  | nil => exact .nil
  | cons h1 _ ih => exact .cons (at_ r _ h1) ih
theorem lst_put {n : Nat} {a : Addr} {vs vs' : List V} {ws' : List W} (S : StOk K cl F H κ μ) (s : Sub T F H) (e2 : κ[n]? = some a) (a1 : H a = some (.lst vs)) (a2 : F a = Option.none) (r : RWs K F κ vs' ws') :
    Mov T F H κ F (upd H a (.lst vs')) κ ∧ StOk K cl F (upd H a (.lst vs')) κ (μ.set n (.lst ws')) :=
  ⟨Mov.write s a1 a2 (List.mem_of_getElem? e2) (Tabs_put a1), S.write e2 ⟨vs', upd_same, a2, r⟩⟩
theorem yd_hpush (hu : ∀ i0, (X i0).A.units + 65 < cLine) (hm : ∀ i0, (X i0).mg x = some (.builtin "_heapq.heappush")) (ha : YA X T K cl (e :: es) m) (hg : ∀ i0, Gl (X i0) x := by intro _; rfl) (hdb : (x == ("__debug__" : Str)) = false := by decide)
    (he : ∀ i0, starEach (e :: es) (X i0).env = (false, eval e (X i0).env) :: starEach es (X i0).env := by intro _; rfl) (hpl : ∀ i0, (backTo pos (starEach es (X i0).env)).any (·.1) = false := by intro _; rfl) (k : ∀ i0, (X i0).K = K := by intro _; rfl) : YD X T K cl (.Call (.Name x p) (e :: es) [] pos) (yHpush m) := by
  obtain ⟨t, p1, l⟩ := ha
  refine ⟨tCB (rHpush K) t, fun i0 => by have e := k i0; subst e; exact pe_callGB (call_hpush (by have := hu i0; omega)) (hg i0) (hm i0) (p1 i0) hdb (he i0) (hpl i0), ?_⟩
  intro F0 H0 κ0 σ F H κ ρ μ w μ' S h Q q
  unfold yHpush at h
  obtain ⟨⟨ws, μ1⟩, e1, h1⟩ := Option.bind_eq_some_iff.mp h
  clear h
  refine l F0 H0 κ0 σ F H κ ρ μ ws μ1 S e1 _ fun vs F1 H1 κ1 m1 s1 r1 => ?_
  clear e1
  simp only at h1
  split at h1
  · rename_i n w'
    split at h1
    · rename_i ws e3
      obtain ⟨ps, e4, h2⟩ := Option.bind_eq_some_iff.mp h1
      obtain ⟨pq, e5, h3⟩ := Option.bind_eq_some_iff.mp h2
      split at h3
      · rename_i hz
        obtain ⟨ps', e6, h4⟩ := Option.map_eq_some_iff.mp h3
        cases h4
        have ew := wPs_of e4
        have ew' := wP_of e5
        subst ew ew'
        cases r1 with
        | cons ra rr =>
          cases rr with
          | cons rb rr =>
            cases rr
            cases ra with
            | rf e2 =>
              obtain ⟨vs, a1, a2, a3⟩ := s1.ok _ _ _ e3 e2
              have hl := pr_len a3
              rw [List.length_map] at hl
              refine ⟨_, _, vs, ps, pq, ps', rfl, a1, prs2_of m1.s a3, pr2_of m1.s rb, by rw [hl]; exact hz, e6, fun vs' hv => ?_⟩
              obtain ⟨m3, s3⟩ := lst_put s1 m1.s e2 a1 a2 (rws_zip (vs0 := vs ++ [_]) (ps0 := ps ++ [pq]) (by rw [List.map_append]; exact pr_append a3 (.cons rb .nil)) hv)
              exact q _ F1 _ κ1 (m1.trans m3) s3 (.da .non)
      · cases h3
    · cases h1
  · cases h1
theorem yd_hpop (hu : ∀ i0, (X i0).A.units + 65 < cLine) (hm : ∀ i0, (X i0).mg x = some (.builtin "_heapq.heappop")) (ha : YA X T K cl (e :: es) m) (hg : ∀ i0, Gl (X i0) x := by intro _; rfl) (hdb : (x == ("__debug__" : Str)) = false := by decide)
    (he : ∀ i0, starEach (e :: es) (X i0).env = (false, eval e (X i0).env) :: starEach es (X i0).env := by intro _; rfl) (hpl : ∀ i0, (backTo pos (starEach es (X i0).env)).any (·.1) = false := by intro _; rfl) (k : ∀ i0, (X i0).K = K := by intro _; rfl) : YD X T K cl (.Call (.Name x p) (e :: es) [] pos) (yHpop m) := by
  obtain ⟨t, p1, l⟩ := ha
  refine ⟨tCB (rHpop K) t, fun i0 => by have e := k i0; subst e; exact pe_callGB (call_hpop (by have := hu i0; omega)) (hg i0) (hm i0) (p1 i0) hdb (he i0) (hpl i0), ?_⟩
  intro F0 H0 κ0 σ F H κ ρ μ w μ' S h Q q
  unfold yHpop at h
  obtain ⟨⟨ws, μ1⟩, e1, h1⟩ := Option.bind_eq_some_iff.mp h
  clear h
  refine l F0 H0 κ0 σ F H κ ρ μ ws μ1 S e1 _ fun vs F1 H1 κ1 m1 s1 r1 => ?_
  clear e1
  simp only at h1
  split at h1
  · rename_i n
    split at h1
    · rename_i ws e3
      obtain ⟨ps, e4, h2⟩ := Option.bind_eq_some_iff.mp h1
      obtain ⟨⟨pq, ps'⟩, e6, h4⟩ := Option.map_eq_some_iff.mp h2
      cases h4
      have ew := wPs_of e4
      subst ew
      cases r1 with
      | cons ra rr =>
        cases rr
        cases ra with
        | rf e2 =>
          obtain ⟨vs, a1, a2, a3⟩ := s1.ok _ _ _ e3 e2
          refine ⟨_, vs, ps, pq, ps', rfl, a1, prs2_of m1.s a3, e6, fun v vs' hv hvs => ?_⟩
          obtain ⟨m3, s3⟩ := lst_put s1 m1.s e2 a1 a2 (rws_zip a3 hvs)
          have rv : RWs K F1 κ1 [v] ([pq].map pW) := rws_zip a3 (.cons hv .nil)
          cases rv with
          | cons rv _ => exact q v F1 _ κ1 (m1.trans m3) s3 rv
    · cases h1
  · cases h1
theorem yd_hify (hu : ∀ i0, (X i0).A.units + 65 < cLine) (hm : ∀ i0, (X i0).mg x = some (.builtin "_heapq.heapify")) (ha : YA X T K cl (e :: es) m) (hg : ∀ i0, Gl (X i0) x := by intro _; rfl) (hdb : (x == ("__debug__" : Str)) = false := by decide)
    (he : ∀ i0, starEach (e :: es) (X i0).env = (false, eval e (X i0).env) :: starEach es (X i0).env := by intro _; rfl) (hpl : ∀ i0, (backTo pos (starEach es (X i0).env)).any (·.1) = false := by intro _; rfl) (k : ∀ i0, (X i0).K = K := by intro _; rfl) : YD X T K cl (.Call (.Name x p) (e :: es) [] pos) (yHify m) := by
  obtain ⟨t, p1, l⟩ := ha
  refine ⟨tCB (rHify K) t, fun i0 => by have e := k i0; subst e; exact pe_callGB (call_hify (by have := hu i0; omega)) (hg i0) (hm i0) (p1 i0) hdb (he i0) (hpl i0), ?_⟩
  intro F0 H0 κ0 σ F H κ ρ μ w μ' S h Q q
  unfold yHify at h
  obtain ⟨⟨ws, μ1⟩, e1, h1⟩ := Option.bind_eq_some_iff.mp h
  clear h
  refine l F0 H0 κ0 σ F H κ ρ μ ws μ1 S e1 _ fun vs F1 H1 κ1 m1 s1 r1 => ?_
  clear e1
  simp only at h1
  split at h1
  · rename_i n
    split at h1
    · rename_i ws e3
      obtain ⟨ps, e4, h2⟩ := Option.bind_eq_some_iff.mp h1
      obtain ⟨ps', e6, h4⟩ := Option.map_eq_some_iff.mp h2
      cases h4
      have ew := wPs_of e4
      subst ew
      cases r1 with
      | cons ra rr =>
        cases rr
        cases ra with
        | rf e2 =>
          obtain ⟨vs, a1, a2, a3⟩ := s1.ok _ _ _ e3 e2
          refine ⟨_, vs, ps, ps', rfl, a1, prs2_of m1.s a3, e6, fun vs' hvs => ?_⟩
          obtain ⟨m3, s3⟩ := lst_put s1 m1.s e2 a1 a2 (rws_zip a3 hvs)
          exact q _ F1 _ κ1 (m1.trans m3) s3 (.da .non)
    · cases h1
  · cases h1
end
end Md

/-! Md9: sorted() of whole numbers and of pairs of them; dict comprehensions over what is shown; order of tuples. -/
namespace Md
open PySem PySem.Spec PyProof.Rows L2 Pd
def leP (p q : Int × Int) : Bool := decide (p.1 < q.1 ∨ p.1 = q.1 ∧ p.2 ≤ q.2)
def leI (a b : Int) : Bool := decide (a ≤ b)
section
variable {X : Cx}
def rSort (K : PySem.W.Frag) : List V → Hp → VK → Prop := fun xs H Q => ∃ l vs, xs = [V.ref l] ∧ SqL K H l vs ∧
  ((∃ ps, Paired (Pr2 K H) vs ps ∧ ∀ vs' q, H q = none → Paired (fun v' p' => (v', p') ∈ vs.zip ps) vs' (ps.mergeSort leP) → Q (.ref q) (upd H q (.lst vs'))) ∨
   (∃ ns : List Int, vs = ns.map V.int ∧ ∀ q, H q = none → Q (.ref q) (upd H q (.lst ((ns.mergeSort leI).map V.int)))))
theorem eachIs_map {α β γ : Type} {R : α → β → Prop} (f : γ → α) (g : γ → β) : ∀ {ts : List γ}, (∀ t ∈ ts, R (f t) (g t)) → PySem.W.EachIs R (ts.map f) (ts.map g)
  | [], _ => .nil
  | t :: ts, h => .cons (h t List.mem_cons_self) (eachIs_map f g fun x hx => h x (List.mem_cons_of_mem _ hx))
theorem eachIs_of {α β : Type} {R : α → β → Prop} (f : β → α) : ∀ {xs : List α} {ys : List β}, PySem.W.EachIs R xs ys → (∀ x y, R x y → x = f y) → xs = ys.map f
  | _, _, .nil, _ => rfl
  | _, _, .cons h r, e => by rw [List.map_cons, ← e _ _ h, eachIs_of f r e]
theorem call_sorted2 (hu : X.A.units + 65 < cLine) : CallR X (.builtin "sorted") (rSort X.K) := by
  intro pins s σ H xs us Q I rs h
  obtain ⟨l, vs, rfl, hq, h⟩ := h
  obtain ⟨u, rfl, rx⟩ := vals1 rs
  obtain rfl : u = .ref l := rx
  obtain ⟨its, rv, pl, hz⟩ := I.list hq
  rcases h with ⟨ps, hp, q⟩ | ⟨ns, e, q⟩
  · obtain ⟨ts, i1, i2, i3, ht⟩ := triple I rv hp
    have hlen : ts.length = vs.length := by rw [i2, List.length_map]
    refine PySem.W.sorted_data (β := T3) (bs := ts) (enc := fun t => PyData.tuple [.int t.2.2.1, .int t.2.2.2]) (R := fun v t => v = t.1) pl.isList ?_ ?_ ?_ ?_ (by rw [hlen]; exact hz) ?_ ?_
    · rw [i1]
      have := eachIs_map (R := fun (v : Value) (t : T3) => v = t.1) (fun t : T3 => t.1) (fun t => t) (ts := ts) (fun t _ => rfl)
      rw [List.map_id'] at this
      exact this
    · rw [i1]
      have := eachIs_map (R := fun (v : Value) (t : T3) => ∃ as, Reads s.heap v (PyData.tuple [.int t.2.2.1, .int t.2.2.2]) as) (fun t : T3 => t.1) (fun t => t) (ts := ts) (fun t h => by
        obtain ⟨r1, ⟨a, e, st⟩, _⟩ := ht t h
        rw [e] at r1
        exact Dp.reads I _ _ _ (Dp.tup st (.cons (.int t.2.2.1) (.cons (.int t.2.2.2) .nil))) r1)
      rw [List.map_id'] at this
      exact this
    · intro d hd d' hd'
      obtain ⟨t, _, rfl⟩ := List.mem_map.mp hd
      obtain ⟨t', _, rfl⟩ := List.mem_map.mp hd'
      rfl
    · refine .inl fun d hd => ?_
      obtain ⟨t, _, rfl⟩ := List.mem_map.mp hd
      exact ⟨_, _, rfl⟩
    · intro t _
      show X.A.units + 2 + PyData.depth (.tuple [.int t.2.2.1, .int t.2.2.2]) < cLine
      have e : PyData.depth (.tuple [.int t.2.2.1, .int t.2.2.2]) ≤ 4 := by
        show _ ≤ 4
        simp [PyData.depth, PyData.depthAll]
      omega
    · intro out ho he
      have eo := eachIs_of (fun t : T3 => t.1) he (fun _ _ h => h)
      subst eo
      have pm := List.mergeSort_perm ts (PySem.W.dataLe false fun t : T3 => PyData.tuple [.int t.2.2.1, .int t.2.2.2])
      obtain ⟨e', hg⟩ := sortedAll_at s.heap its (((ts.mergeSort (PySem.W.dataLe false fun t : T3 => PyData.tuple [.int t.2.2.1, .int t.2.2.2])).map fun t : T3 => t.1).toArray)
      have pm' : ∀ t ∈ ts.mergeSort (PySem.W.dataLe false fun t : T3 => PyData.tuple [.int t.2.2.1, .int t.2.2.2]), t ∈ ts := fun t h => pm.mem_iff.mp h
      have em : (ts.mergeSort (PySem.W.dataLe false fun t : T3 => PyData.tuple [.int t.2.2.1, .int t.2.2.2])).map (fun t => t.2.2) = ps.mergeSort leP := by
        rw [PySem.W.dataLe_ii (fun t : T3 => t.2.2.1) (fun t => t.2.2.2), i3]
        exact List.map_mergeSort (fun a _ b _ => rfl)
      refine ⟨.ref (s.heap.objs.size + 1), _, I.laid (t' := s.toks) (o := .lst ((ts.mergeSort (PySem.W.dataLe false fun t : T3 => PyData.tuple [.int t.2.2.1, .int t.2.2.2])).map fun t => t.2.1)) (fun b u h => sortedAll_old h) (Nat.le_succ _) ⟨by rw [List.length_map, pm.length_eq, hlen]; exact hz, _, e', vals_of fun t h => (ht t (pm' t h)).1, hg⟩, rfl, q _ _ (I.hok.fresh (Nat.le_succ _)) ?_⟩
      rw [← em, i2, i3]
      exact paired_mem pm'
  · subst e
    exact cr_sortedI pins s σ H _ _ Q I rs ⟨l, ns, rfl, hq, fun ns' p pm pw hp => by
      have e : ns' = ns.mergeSort leI := by
        refine List.Perm.eq_of_pairwise (le := fun a b : Int => a ≤ b) (fun a b _ _ h1 h2 => Int.le_antisymm h1 h2) pw ?_ (pm.trans (List.mergeSort_perm ns leI).symm)
        exact (List.pairwise_mergeSort (fun a b c h1 h2 => by unfold leI at *; simp only [decide_eq_true_eq] at *; omega) (fun a b => by unfold leI; simp only [Bool.or_eq_true, decide_eq_true_eq]; omega) ns).imp fun h => by unfold leI at h; simpa using h
      rw [e]
      exact q p (by exact hp)⟩
end

end Md
namespace Pd
open PySem PySem.Spec PyProof.Rows L2
section
variable {ι : Type} {T : List (Addr × Str)} {K : PySem.W.Frag} {X : ι → Cx}
def KL (T : List (Addr × Str)) (K : PySem.W.Frag) (te : TE) (m : M (List (Key × D))) : Prop := ∀ (F0 H0 : Hp) (σ : St) (F H : Hp) (ρ : Fr) (ds : List (Key × D)), State T K F0 H0 σ F H ρ → m ρ = some ds →
  ∀ Q : VK, (∀ a us F' H', Grow T F H F' H' → H' a = some (.dK us) → F' a = Option.none → Fre (H a) → RpK K F' us ds → Q (.ref a) H') → te σ H Q
def XK_ {ι : Type} (X : ι → Cx) (T : List (Addr × Str)) (K : PySem.W.Frag) (e : Expr) (m : M (List (Key × D))) : Prop := ∃ t, (∀ i, PE (X i) e t) ∧ KL T K t m
def mDcK (mi : M (List D)) (vs : List Nat) (g : D → Fr → Option Fr) (mt : M Bool) (mk mv : M D) : M (List (Key × D)) := fun ρ => (mi ρ).bind fun xs => if xs.length ≤ sizeLine then compK (turnK g mt mk mv (wipeF ρ vs)) xs [] else none
theorem kl_dc {wi : TI} {mi : M (List D)} {tg : TG} {is vs : List Nat} {g : D → Fr → Option Fr} {tt : TT} {mt : M Bool} {tk tv : TE} {mk mv : M D} (hi : IL T K wi mi) (hg : GL T K tg is g) (ht : TL T K tt mt) (hk : EL T K tk mk) (he : EL T K tv mv) (hv : ∀ i ∈ is, i ∈ vs) :
    KL T K (tDc wi tg tt tk tv vs) (mDcK mi vs g mt mk mv) := by
  intro F0 H0 σ F H ρ ds S h Q q
  unfold mDcK at h
  obtain ⟨xs, e1, h⟩ := Option.bind_eq_some_iff.mp h
  split at h
  · rename_i hz
    have hrs := h
    clear h
    refine hi F0 H0 σ F H ρ xs S e1 _ fun J F1 H1 g1 J1 => ?_
    intro Dd hD
    refine ⟨fun i m H2 => m = xs.length - i ∧ i ≤ xs.length ∧ ∃ F2 us r, Grow T F1 H1 F2 H2 ∧ H2 Dd = some (.dK us) ∧ F2 Dd = Option.none ∧ compK (turnK g mt mk mv (wipeF ρ vs)) (xs.take i) [] = some r ∧ RpK K F2 us r,
      ⟨xs.length, by simp, Nat.zero_le _, F1, [], [], Grow.mine g1.s hD, upd_same, g1.s.same.free hD, rfl, .nil⟩, ?_⟩
    rintro i m H2 ⟨rfl, hil, F2, us, r, g2, hDl, hDf, hc, hr⟩
    by_cases hlt : i < xs.length
    · obtain ⟨d, hd⟩ := some_at hlt
      obtain ⟨r1, o, hc1, hfo, hro⟩ := compK_take hrs hd
      rw [hc] at hc1
      cases hc1
      have hul : us.length < sizeLine := by
        have h1 := compK_len hc
        rw [hr.len]
        rw [List.length_take] at h1
        simp only [List.length_nil] at h1
        omega
      refine .inr ⟨J1.go i H2 (g2.f.trans g2.s.same) hlt, fun H3 => ∃ F3 us' rr, Grow T F1 H1 F3 H3 ∧ H3 Dd = some (.dK us') ∧ F3 Dd = Option.none ∧ compK (turnK g mt mk mv (wipeF ρ vs)) (xs.take (i + 1)) [] = some rr ∧ RpK K F3 us' rr, ?_, ?_⟩
      · rintro H3 ⟨F3, us', rr, g3, a1, a2, a4, a3⟩
        exact ⟨xs.length - (i + 1), by omega, rfl, hlt, F3, us', rr, g3, a1, a2, a4, a3⟩
      · intro x H3 hy
        obtain ⟨F3, g3, rx⟩ := J1.yld i d F2 H2 x H3 g2.f g2.s hd hy
        have g23 := g2.trans g3
        have S3 : State T K F0 H0 (L2.wipe σ vs) F3 H3 (wipeF ρ vs) := ((S.wipe vs).grow g1).grow g23
        unfold turnK at hfo
        obtain ⟨ρ2, e2, hfo⟩ := Option.bind_eq_some_iff.mp hfo
        obtain ⟨b, e3, hfo⟩ := Option.bind_eq_some_iff.mp hfo
        have dIn : ∀ {F' H' : Hp}, Grow T F3 H3 F' H' → H' Dd = some (.dK us) ∧ F' Dd = Option.none := fun {F' H'} g' => by
          have h3 : H3 Dd = some (.dK us) := g3.h.old _ _ hDl fun ps z => by cases z
          have f3 : F3 Dd = Option.none := by
            cases q : F3 Dd with
            | none => rfl
            | some u => have z := g3.n Dd u q hDf; rw [hDl] at z; exact z.dK
          refine ⟨g'.h.old _ _ h3 (fun ps z => by cases z), ?_⟩
          cases q : F' Dd with
          | none => rfl
          | some u => have z := g'.n Dd u q f3; rw [h3] at z; exact z.dK
        refine hg F0 H0 _ F3 H3 _ x d ρ2 S3 rx e2 _ fun σ4 S4 w4 => ?_
        refine ⟨by rw [w4 vs hv]; exact wipe_wipeX, ?_⟩
        refine ht F0 H0 σ4 F3 H3 ρ2 b S4 e3 _ fun F5 H5 g5 => ?_
        cases b with
        | true =>
          rw [if_pos rfl] at hfo ⊢
          obtain ⟨y, e6, hfo⟩ := Option.bind_eq_some_iff.mp hfo
          obtain ⟨kk, e7, hfo⟩ := Option.bind_eq_some_iff.mp hfo
          obtain ⟨dd, e8, e9⟩ := Option.map_eq_some_iff.mp hfo
          subst e9
          refine hk F0 H0 σ4 F5 H5 ρ2 y (S4.grow g5) e6 _ fun v F6 H6 g6 r6 => ?_
          refine he F0 H0 σ4 F6 H6 ρ2 dd ((S4.grow g5).grow g6) e8 _ fun u F7 H7 g7 r7 => ?_
          obtain ⟨a1, a2⟩ := dIn ((g5.trans g6).trans g7)
          have g17 := ((g23.trans g5).trans g6).trans g7
          have hDn : H1 Dd = Option.none := hD
          refine ⟨us, kk, rp_key r6 e7, a1, hul, F7, putK us kk u, _, ⟨g17.f, g17.h.putD (.inl hDn) a1, ⟨fun b u e => by rw [upd_ne (ne_of_none e a2)]; exact g17.s.same _ _ e, g17.s.nt, Tabs_putD a1 g17.s.tabs⟩, g17.n⟩, upd_same, a2, hro, ?_⟩
          exact ((hr.mono g3.f).mono ((g5.f.trans g6.f).trans g7.f)).put r7
        | false =>
          rw [if_neg Bool.false_ne_true] at hfo ⊢
          cases hfo
          obtain ⟨a1, a2⟩ := dIn g5
          exact ⟨F5, us, r, g23.trans g5, a1, a2, hro, (hr.mono g3.f).mono g5.f⟩
    · have e : i = xs.length := by omega
      subst e
      rw [List.take_length, hrs] at hc
      cases hc
      refine .inl ⟨J1.stop _ H2 (g2.f.trans g2.s.same) (Nat.le_refl _), ?_⟩
      exact q Dd us F2 H2 (g1.trans g2) hDl hDf (g1.h.free (.inl hD)) hr
  · cases h
theorem xk_dc {kx vx tgt iter : Expr} {ifs : List Expr} {scope : Scope} {own : List (Str × Nat)} {pos : Pos} {mi : M (List D)} {is : List Nat} {g : D → Fr → Option Fr} {mt : M Bool} {mk mv : M D} (hN : ∀ i0, (X i0).N.Nodup) (ok : ∀ i0, BlkOk (X i0).N (X i0).env.scope scope own) (hi : XI X T K tgt iter mi)
    (hg : XG (bx X scope) T K tgt is g) (ht : XTs (bx X scope) T K ifs mt) (hk : XD (bx X scope) T K kx mk) (he : XD (bx X scope) T K vx mv)
    (hc : ∀ i0, (X i0).calm = true := by intro _; rfl) (hv : ∀ i ∈ is, i ∈ own.map (·.2) := by decide) (hs : ∀ i0, ∀ x, foldedSetIterable iter (X i0).env x = pure x := by intro _ _; rfl) : XK_ X T K (.DictComp kx vx [⟨tgt, iter, ifs, 0⟩] scope pos) (mDcK mi (own.map (·.2)) g mt mk mv) := by
  obtain ⟨wi, p1, l1⟩ := hi
  obtain ⟨tg, p2, l2⟩ := hg
  obtain ⟨tt, p3, l3⟩ := ht
  obtain ⟨tk, p5, l5⟩ := hk
  obtain ⟨te, p4, l4⟩ := he
  exact ⟨_, fun i0 => pe_dc (hc i0) (hN i0) (p1 i0) (ok i0) (fun s H C cl fp => p2 (i0, s, H, C, cl, fp)) (fun s H C cl fp => p3 (i0, s, H, C, cl, fp)) (fun s H C cl fp => p5 (i0, s, H, C, cl, fp)) (fun s H C cl fp => p4 (i0, s, H, C, cl, fp)) (hs i0), kl_dc l1 l2 l3 l5 l4 hv⟩

theorem xd_dnotin {i o : Expr} {x y : M D} {pos : Pos} (hu : ∀ i0, (X i0).A.units + 65 < cLine) (hx : XD X T K i x) (hy : XD X T K o y) (hm : behindInMarks .NotIn o = false := by rfl) : XD X T K (.Compare i [.NotIn] [o] pos) (m2 dNotInK x y) := by
  obtain ⟨t, p, l⟩ := hx
  obtain ⟨u, p2, l2⟩ := hy
  refine ⟨_, fun i0 => pe_cmp (pc_dnotin (by have := hu i0; omega) (p i0) (p2 i0)) hm, ?_⟩
  have z := el_din (b := true) l l2
  simp only [Bool.true_xor] at z
  exact z
theorem xt_dnotin {i o : Expr} {x y : M D} {pos : Pos} (hu : ∀ i0, (X i0).A.units + 65 < cLine) (hx : XD X T K i x) (hy : XD X T K o y) (hm : behindInMarks .NotIn o = false := by rfl) : XT X T K (.Compare i [.NotIn] [o] pos) (mB (m2 dNotInK x y)) := by
  obtain ⟨t, p, l⟩ := hx
  obtain ⟨u, p2, l2⟩ := hy
  refine ⟨_, fun i0 => pt_cmp (pc_dnotin (by have := hu i0; omega) (p i0) (p2 i0)) hm, ?_⟩
  have z := el_din (b := true) l l2
  simp only [Bool.true_xor] at z
  exact tl_test z
/-- len(), also of a dict -/
def dLen2 : List D → Option D
  | [.dict xs] => some (.int xs.length)
  | ds => dLen ds
theorem kv_len {K : PySem.W.Frag} {H : Hp} : ∀ {l : List (Key × V)} {r : List (D × D)}, RpKv K H l r → l.length = r.length
  | _, _, .nil => rfl
  | _, _, .cons _ r => congrArg (· + 1) (kv_len r)
theorem cl_len2 : CL T K (Md.rLen4 K) dLen2 := by
  intro F H vs ds d s r h Q q
  have old : dLen ds = some d → Md.rLen4 K vs H Q := fun h => .inl (cl_len F H vs ds d s r h Q q)
  match ds, h, r with
  | [.dict xs], h, r =>
    cases h
    obtain ⟨v, rfl, rv⟩ := rp1 r
    cases rv with
    | dct hd rk =>
      rw [← kv_len rk] at q
      exact .inr ⟨_, _, rfl, s.same _ _ hd, q _ F H (Grow.refl s) (.int _)⟩
  | [], h, r => exact old h
  | [.none], h, r => exact old h
  | [.int _], h, r => exact old h
  | [.bool _], h, r => exact old h
  | [.str _], h, r => exact old h
  | [.list _], h, r => exact old h
  | [.tuple _], h, r => exact old h
  | _ :: _ :: _, h, r => simp [dLen2, dLen] at h
theorem xd_len2 {e : Expr} {es : List Expr} {p pos : Pos} {m : M (List D)} (ha : XA X T K (e :: es) m) (hm : ∀ i0, (X i0).mg "len" = none) (hg : ∀ i0, Gl (X i0) "len" := by intro _; rfl) (he : ∀ i0, starEach (e :: es) (X i0).env = (false, eval e (X i0).env) :: starEach es (X i0).env := by intro _; rfl) (hpl : ∀ i0, (backTo pos (starEach es (X i0).env)).any (·.1) = false := by intro _; rfl) (k : ∀ i0, (X i0).K = K := by intro _; rfl) :
    XD X T K (.Call (.Name "len" p) (e :: es) [] pos) (mA dLen2 m) :=
  xd_callB (id := "len") (r := Md.rLen4 K) (fun i0 => by have e := k i0; subst e; exact Md.call_len4) cl_len2 hm (by decide +kernel) ha hg (by decide) (by decide) he hpl
end
end Pd
namespace Md
open PySem PySem.Spec PyProof.Rows L2 Pd
def geP (p q : Int × Int) : Bool := if p.1 = q.1 then decide (q.2 ≤ p.2) else decide (q.1 ≤ p.1)
theorem ge2_run {A : Around} {s : Shared} {x y : Value} {p q : Int × Int} (hx : At2 s.heap x p) (hy : At2 s.heap y q) (hu : A.units < cLine) : Ob.RcOp .GtE A s x y (geP p q) := by
  obtain ⟨a, t1, t2, rfl, h1⟩ := hx
  obtain ⟨b, t3, t4, rfl, h2⟩ := hy
  have R := Ob.RcOp.tuples_ge (A := A) (s := s) (e := fun j => decide ([p.1, p.2].getD j 0 = [q.1, q.2].getD j 0)) (r := fun j => decide ([q.1, q.2].getD j 0 ≤ [p.1, p.2].getD j 0)) h1 h2 hu (fun j j1 j2 => by
    have hj : j < 2 := j1
    match j, hj with
    | 0, _ =>
      have z : (p.1 == q.1) = decide (p.1 = q.1) := by
        by_cases e : p.1 = q.1
        · rw [decide_eq_true e]; exact beq_iff_eq.mpr e
        · rw [decide_eq_false e]; exact beq_eq_false_iff_ne.mpr e
      show SeqAt.EqAt A.in1 s (.int p.1 t1) (.int q.1 t3) (decide (p.1 = q.1))
      rw [← z]
      exact SeqAt.EqAt.int_int _ _ _ _
    | 1, _ =>
      have z : (p.2 == q.2) = decide (p.2 = q.2) := by
        by_cases e : p.2 = q.2
        · rw [decide_eq_true e]; exact beq_iff_eq.mpr e
        · rw [decide_eq_false e]; exact beq_eq_false_iff_ne.mpr e
      show SeqAt.EqAt A.in1 s (.int p.2 t2) (.int q.2 t4) (decide (p.2 = q.2))
      rw [← z]
      exact SeqAt.EqAt.int_int _ _ _ _) (fun j j1 j2 _ => by
    have hj : j < 2 := j1
    match j, hj with
    | 0, _ => exact Ob.RcOp.ge_int _ _ _ _
    | 1, _ => exact Ob.RcOp.ge_int _ _ _ _)
  have e : Ob.lexAt (fun j => decide ([p.1, p.2].getD j 0 = [q.1, q.2].getD j 0)) (fun j => decide ([q.1, q.2].getD j 0 ≤ [p.1, p.2].getD j 0)) (decide ((#[Value.int p.1 t1, .int p.2 t2] : Array Value).size ≥ (#[Value.int q.1 t3, .int q.2 t4] : Array Value).size)) 0 (min (#[Value.int p.1 t1, .int p.2 t2] : Array Value).size (#[Value.int q.1 t3, .int q.2 t4] : Array Value).size) = geP p q := by
    show Ob.lexAt _ _ _ 0 2 = _
    unfold Ob.lexAt geP
    by_cases h : p.1 = q.1
    · rw [if_pos h, if_pos (by simpa using h)]
      show Ob.lexAt _ _ _ 1 1 = _
      unfold Ob.lexAt
      by_cases h2 : p.2 = q.2
      · rw [if_pos (by simpa using h2)]
        show decide (2 ≥ 2) = decide (q.2 ≤ p.2)
        rw [decide_eq_true (by omega), decide_eq_true (by omega)]
      · rw [if_neg (by simpa using h2)]
        rfl
    · rw [if_neg h, if_neg (by simpa using h)]
      rfl
  rw [e] at R
  exact R
def rGeP (K : PySem.W.Frag) : R2 := fun x y H Q => ∃ p q, Pr2 K H x p ∧ Pr2 K H y q ∧ Q (.bl (geP p q)) H
theorem op_geP {X : Cx} (hu : X.A.units < cLine) : OpR X (compareOp .GtE) (rGeP X.K) := by
  intro pins s σ H x y v u Q I r1 r2 h
  obtain ⟨p, q, hp, hq, h⟩ := h
  exact ge2_run (at2_of I hp r1) (at2_of I hq r2) hu X.prog X.w X.xe _ ⟨.bl _, H, I, rfl, h⟩
def dGeP : D → D → Option D := fun x y => (asP x).bind fun p => (asP y).map fun q => .bool (geP p q)
theorem asP_of {d : D} {p : Int × Int} (h : asP d = some p) : d = pD p := by
  unfold asP at h
  split at h
  · cases h; rfl
  · cases h
section
variable {ι : Type} {T : List (Addr × Str)} {K : PySem.W.Frag} {X : ι → Cx} {cl : Cf}
theorem pr2_rp {F H : Hp} {v : V} {q : Int × Int} (s : Sub T F H) (r : Rp K F v (pD q)) : Pr2 K H v q := pr2_of (κ := []) s (RW.da r)
theorem ol_geP : OpL T K (rGeP K) dGeP := by
  intro F H x y dx dy d s rx ry h Q q
  obtain ⟨p, e1, h⟩ := Option.bind_eq_some_iff.mp h
  obtain ⟨p', e2, h⟩ := Option.map_eq_some_iff.mp h
  subst h
  have e1 := asP_of e1
  have e2 := asP_of e2
  subst e1 e2
  exact ⟨p, p', pr2_rp s rx, pr2_rp s ry, q _ F H (Grow.refl s) (.bl _)⟩
theorem opk_geP (hu : ∀ i0, (X i0).A.units + 65 < cLine) (k : ∀ i0, (X i0).K = K := by intro _; rfl) : ∀ i0, OpR (X i0) (compareOp .GtE) (rGeP K) := fun i0 => by
  have e := k i0
  subst e
  exact op_geP (by have := hu i0; omega)
/-- sorted() -/
def sortW (ws : List W) : Option (List W) := match wInts ws with
  | some ns => some ((ns.mergeSort leI).map iW)
  | none => (wPs ws).map fun ps => (ps.mergeSort leP).map pW
def ySorted (a : YM W) : YM (List W) := fun ρ μ => (a ρ μ).bind fun p => match p.1 with
  | .da (.list ds) => (sortW (ds.map .da)).map fun r => (r, p.2)
  | .rf n => match p.2[n]? with
    | some (.lst ws) => (sortW ws).map fun r => (r, p.2)
    | _ => none
  | _ => none
theorem yf_sorted {e : Expr} {a : YM W} {p pos : Pos} (hu : ∀ i0, (X i0).A.units + 65 < cLine) (ha : YD X T K cl e a) (hm : ∀ i0, (X i0).mg "sorted" = none) (hg : ∀ i0, Gl (X i0) "sorted" := by intro _; rfl) (hs : ∀ i0, starEach [e] (X i0).env = (false, eval e (X i0).env) :: starEach [] (X i0).env := by intro _; rfl) (hpl : ∀ i0, (backTo pos (starEach [] (X i0).env)).any (·.1) = false := by intro _; rfl) (k : ∀ i0, (X i0).K = K := by intro _; rfl) :
    YFd X T K cl (.Call (.Name "sorted" p) [e] [] pos) (ySorted a) := by
  obtain ⟨t, p1, l⟩ := ha
  refine ⟨tCB (rSort K) (tCons t tNil), fun i0 => by have e := k i0; subst e; exact pe_callB (call_sorted2 (hu i0)) (hg i0) (hm i0) (by decide +kernel) (pa_cons (p1 i0) pa_nil (hs i0)) (by decide) (by decide) (hs i0) (hpl i0), ?_⟩
  intro F0 H0 κ0 σ F H κ ρ μ ws μ' S h Q q
  unfold ySorted at h
  obtain ⟨⟨x, μ1⟩, e1, h1⟩ := Option.bind_eq_some_iff.mp h
  clear h
  refine l F0 H0 κ0 σ F H κ ρ μ x μ1 S e1 _ fun v F1 H1 κ1 m1 s1 r1 => ?_
  have fin : ∀ (vs : List V) (p : Addr), H1 p = Option.none → StOk K cl F1 H1 κ1 μ' → RWs K F1 κ1 vs ws → Q (.ref p) (upd H1 p (.lst vs)) := fun vs p hp s2 r => by
    obtain ⟨m2, s3, hf, hk⟩ := fy_new (vs := vs) (ws := ws) s2 m1.s hp
    exact q p vs F1 _ κ1 (m1.trans m2) s3 upd_same hf hk (m1.freN hp hk) r
  have go : ∀ (l : Addr) (vs : List V) (ws0 : List W), SqL K H1 l vs → RWs K F1 κ1 vs ws0 → (sortW ws0).map (fun r => (r, μ1)) = some (ws, μ') → rSort K [V.ref l] H1 Q := fun l vs ws0 hl r0 h => by
    obtain ⟨r, e2, h⟩ := Option.map_eq_some_iff.mp h
    cases h
    unfold sortW at e2
    split at e2
    · rename_i ns e3
      cases e2
      have ev := wInts_rp r0 e3
      subst ev
      exact ⟨l, _, rfl, hl, .inr ⟨ns, rfl, fun p hp => fin _ p hp s1 (ints_rws' _)⟩⟩
    · obtain ⟨ps, e3, e2⟩ := Option.map_eq_some_iff.mp e2
      subst e2
      have ew := wPs_of e3
      subst ew
      exact ⟨l, vs, rfl, hl, .inl ⟨ps, prs2_of m1.s r0, fun vs' p hp hv => fin _ p hp s1 (rws_zip r0 hv)⟩⟩
  cases r1 with
  | da r1 =>
    cases r1 with
    | lst hs r => exact go _ _ _ (m1.s.same.seq hs) (rpAll_rws r) h1
    | _ => cases h1
  | rf e2 =>
    simp only at h1
    split at h1
    · rename_i ws' e3
      obtain ⟨vs, a1, a2, a3⟩ := s1.ok _ _ _ e3 e2
      exact go _ _ _ (SqL.of a1) a3 h1
    · cases h1
/-- a new dict over what is shown -/
def hardK : List (Key × D) → Bool
  | [] => true
  | p :: r => hard p.2 && hardK r
def ySD (m : Pd.M (List (Key × D))) : YM W := fun ρ μ => (m (toS μ ρ)).bind fun ds => if hardK ds = true then some (.da (dictD ds), μ) else none
theorem unF_rpK {F H F' H' : Hp} {κ : List Addr} {μ : Sto} (S : StOk K cl F H κ μ) (g : Grow T (shF μ κ F H) H F' H') : ∀ {vs : List (Key × V)} {ds : List (Key × D)}, hardK ds = true → RpK K F' vs ds → RpK K (unF μ κ F') vs ds
  | _, _, _, .nil => .nil
  | _, _, h, .cons q r => by
    rw [hardK, Bool.and_eq_true] at h
    exact .cons (unF_rp S g h.1 q) (unF_rpK S g h.2 r)
theorem yd_showD {e : Expr} {m : Pd.M (List (Key × D))} (h : XK_ X T K e m) : YD X T K cl e (ySD m) := by
  obtain ⟨t, p, l⟩ := h
  refine ⟨t, p, ?_⟩
  intro F0 H0 κ0 σ F H κ ρ μ w μ' S h Q q
  obtain ⟨d, e1, h⟩ := Option.bind_eq_some_iff.mp h
  split at h
  · rename_i hd
    cases h
    refine l _ H σ _ H _ d S.shown e1 Q fun a vs F' H' g ha hf hn r => ?_
    have g' := unF_grow S.st S.s g
    have hf' : unF μ κ F' a = Option.none := by
      unfold unF
      split
      · rfl
      · exact hf
    have g2 := keep_new (o := .dK vs) g' ha hf' hn
    have s2 : Same (unF μ κ F') (upd (unF μ κ F') a (.dK vs)) := fun b u e => by rw [upd_ne (ne_of_none e hf')]; exact e
    exact q _ _ H' κ (.of g2) (S.st.grow S.s g2) (.da (.dct upd_same ((unF_rpK S.st g hd r).mono s2).kv))
  · cases h
end
end Md

/-! Md10: more rules over a store. -/
namespace Md
open PySem PySem.Spec PyProof.Rows L2 Pd
section
variable {ι : Type} {T : List (Addr × Str)} {K : PySem.W.Frag} {X : ι → Cx} {cl : Cf} {Wx : WN}
theorem yd_add {a b : Expr} {ma mb : YM W} {pos : Pos} (ha : YD X T K cl a ma) (hb : YD X T K cl b mb) (k : ∀ i0, (X i0).K = K := by intro _; rfl) : YD X T K cl (.BinOp a .Add b pos) (y2 dAdd ma mb) := yd_op (fun i0 => by have e := k i0; subst e; exact op_plus) ol_plus ha hb
end
end Md

/-! Hm1: the sift keeps heaps. -/
namespace Hq
section
variable {α : Type} {lt : α → α → Bool}
structure Ord (lt : α → α → Bool) : Prop where
  tr : ∀ a b c, lt b a = false → lt c b = false → lt c a = false
  as : ∀ a b, lt a b = true → lt b a = false
/-- c is a child of p -/
def Ch (p c : Nat) : Prop := c = 2 * p + 1 ∨ c = 2 * p + 2
theorem Ch.par {p c : Nat} (h : Ch p c) : p = (c - 1) / 2 := by rcases h with h | h <;> omega
theorem Ch.l {p c : Nat} (h : Ch p c) : p < c := by rcases h with h | h <;> omega
theorem ch_of {c : Nat} (h : 0 < c) : Ch ((c - 1) / 2) c := by unfold Ch; omega
theorem Ch.inj {p q c : Nat} (h : Ch p c) (g : Ch q c) : p = q := by rw [h.par, g.par]
/-- the edges of parents from t on -/
def HeapFrom (lt : α → α → Bool) (t : Nat) (xs : List α) : Prop := ∀ p c a b, Ch p c → t ≤ p → xs[p]? = some a → xs[c]? = some b → lt b a = false
inductive Desc (t : Nat) : Nat → Prop
  | here : Desc t t
  | step {p c : Nat} : Ch p c → Desc t p → Desc t c
theorem Desc.le {t p : Nat} (h : Desc t p) : t ≤ p := by
  induction h with
  | here => exact Nat.le_refl _
  | step c _ ih => have := c.l; omega
theorem Desc.par {t p : Nat} (h : Desc t p) (g : t < p) : Desc t ((p - 1) / 2) := by
  cases h with
  | here => omega
  | step c d => rw [← c.par]; exact d
theorem desc0 : ∀ p : Nat, Desc 0 p := by
  intro p
  induction p using Nat.strongRecOn with
  | ind p ih =>
    by_cases h : p = 0
    · subst h; exact .here
    · exact .step (ch_of (by omega)) (ih _ (by omega))
structure Down (lt : α → α → Bool) (t pos : Nat) (xs : List α) : Prop where
  e : ∀ p c a b, Ch p c → t ≤ p → p ≠ pos → c ≠ pos → xs[p]? = some a → xs[c]? = some b → lt b a = false
  g : ∀ p c a b, Ch p pos → t < pos → Ch pos c → xs[p]? = some a → xs[c]? = some b → lt b a = false
structure Up (lt : α → α → Bool) (t pos : Nat) (xs : List α) : Prop where
  e : ∀ p c a b, Ch p c → t ≤ p → c ≠ pos → xs[p]? = some a → xs[c]? = some b → lt b a = false
  g : ∀ p c a b, Ch p pos → t < pos → Ch pos c → xs[p]? = some a → xs[c]? = some b → lt b a = false
theorem hsw_some {xs : List α} {i j : Nat} (hi : i < xs.length) (hj : j < xs.length) (ne : i ≠ j) : ∃ ys x y, hsw xs i j = some ys ∧ xs[i]? = some x ∧ xs[j]? = some y ∧ ys[i]? = some y ∧ ys[j]? = some x ∧ (∀ k, k ≠ i → k ≠ j → ys[k]? = xs[k]?) ∧ ys.length = xs.length := by
  refine ⟨(xs.set i xs[j]).set j xs[i], xs[i], xs[j], ?_, List.getElem?_eq_getElem hi, List.getElem?_eq_getElem hj, ?_, ?_, ?_, by simp⟩
  · unfold hsw
    rw [List.getElem?_eq_getElem hi, List.getElem?_eq_getElem hj]
    rfl
  · rw [List.getElem?_set_ne (Ne.symm ne), List.getElem?_set_self hi]
  · rw [List.getElem?_set_self (by simpa using hj)]
  · intro k h1 h2
    rw [List.getElem?_set_ne (Ne.symm h2), List.getElem?_set_ne (Ne.symm h1)]
theorem start_down {t : Nat} {xs : List α} (h : HeapFrom lt (t + 1) xs) : Down lt t t xs where
  e p c a b hc hp h1 _ ha hb := h p c a b hc (by omega) ha hb
  g p c a b _ h _ _ _ := by omega
theorem up_done {t pos : Nat} {xs : List α} (o : Ord lt) (u : Up lt t pos xs) (d : Desc t pos) (h : t < pos → ∀ p a b, Ch p pos → xs[p]? = some a → xs[pos]? = some b → lt b a = false) : HeapFrom lt t xs := by
  intro p c a b hc hp ha hb
  by_cases e : c = pos
  · subst e
    exact h (by have := hc.l; omega) p a b hc ha hb
  · exact u.e p c a b hc hp e ha hb
/-- what a run needs and keeps -/
def need (n : Nat) (d : Bool) (pos : Nat) (after : Int) : Nat := (after + 1).toNat * (2 * n + 4) + (if d = true then (n - pos) + n + 3 else pos + 1)
theorem sift_ok (o : Ord lt) : ∀ (f : Nat) (d : Bool) (pos top : Nat) (after : Int) (xs : List α), pos < xs.length → need xs.length d pos after ≤ f → after < top → Desc top pos → (0 ≤ after → after.toNat + 1 = top) → (after < 0 → top = 0) →
    (d = true → Down lt top pos xs) → (d = false → Up lt top pos xs) → ∃ ys, sift lt f d pos top after xs = some ys ∧ HeapFrom lt 0 ys := by
  intro f
  induction f with
  | zero =>
    intro d pos top after xs hp hf
    exfalso
    unfold need at hf
    cases d <;> simp at hf
  | succ f ih =>
    intro d pos top after xs hp hf hat hd h1 h2 hD hU
    -- the up phase has ended: on to the next node
    have next : ∀ ys : List α, ys.length = xs.length → HeapFrom lt top ys → need xs.length true after.toNat (after - 1) ≤ f ∨ after < 0 → ∃ zs, (if after < 0 then some ys else sift lt f true after.toNat after.toNat (after - 1) ys) = some zs ∧ HeapFrom lt 0 zs := by
      intro ys hl hh hn
      by_cases ha : after < 0
      · rw [if_pos ha]
        have := h2 ha
        subst this
        exact ⟨ys, rfl, hh⟩
      · rw [if_neg ha]
        have e := h1 (by omega)
        have hn : need xs.length true after.toNat (after - 1) ≤ f := by rcases hn with h | h; exact h; exact absurd h ha
        have := hd.le
        refine ih true _ _ _ ys (by omega) (by rw [hl]; exact hn) (by omega) .here (fun _ => by omega) (fun h => by omega) (fun _ => start_down (by rw [e]; exact hh)) (fun h => by cases h)
    cases d with
    | true =>
      have D := hD rfl
      unfold sift
      have step : ∀ m : Nat, Ch pos m → m < xs.length → (∀ c a b, Ch pos c → c ≠ m → xs[m]? = some a → xs[c]? = some b → lt b a = false) → ∃ ys, ((hsw xs m pos).bind fun ys => sift lt f true m top after ys) = some ys ∧ HeapFrom lt 0 ys := by
        intro m hm hml hmin
        have hlt := hm.l
        obtain ⟨ys, x, y, e, e1, e2, e3, e4, e5, e6⟩ := hsw_some hml hp (by omega)
        rw [e]
        refine ih true m top after ys (by omega) ?_ hat (.step hm hd) h1 h2 (fun _ => ?_) (fun h => by cases h)
        · unfold need at hf ⊢
          rw [e6]
          simp only [if_true] at hf ⊢
          omega
        · refine ⟨fun p c a b hc hp' n1 n2 ha hb => ?_, fun p c a b hc hp' hc2 ha hb => ?_⟩
          · by_cases k1 : p = pos
            · subst k1
              rw [e4] at ha; cases ha
              have k3 : c ≠ p := by have := hc.l; omega
              rw [e5 c n2 k3] at hb
              exact hmin c _ _ hc n2 e1 hb
            · by_cases k2 : c = pos
              · subst k2
                rw [e4] at hb; cases hb
                have k3 : p ≠ m := n1
                have k4 : p ≠ c := k1
                rw [e5 p k3 k4] at ha
                have := hc.l
                exact D.g p m _ _ hc (by omega) hm ha e1
              · rw [e5 p n1 k1] at ha
                rw [e5 c n2 k2] at hb
                exact D.e p c a b hc hp' k1 k2 ha hb
          · have : p = pos := hc.inj hm
            subst this
            rw [e4] at ha; cases ha
            have l2 := hc2.l
            rw [e5 c (by omega) (by omega)] at hb
            exact D.e m c _ _ hc2 (by have := hd.le; omega) (by omega) (by omega) e1 hb
      split
      · rename_i hlt
        have hl1 : 2 * pos + 1 < xs.length := by omega
        split
        · rename_i hl2
          obtain ⟨l, el⟩ : ∃ l, xs[2 * pos + 1]? = some l := ⟨_, List.getElem?_eq_getElem hl1⟩
          obtain ⟨r, er⟩ : ∃ r, xs[2 * pos + 1 + 1]? = some r := ⟨_, List.getElem?_eq_getElem hl2⟩
          rw [el, er]
          simp only [Option.bind_some]
          split
          · rename_i hlr
            refine step _ (.inl rfl) hl1 fun c a b hc n ha hb => ?_
            rw [el] at ha; cases ha
            have : c = 2 * pos + 1 + 1 := by rcases hc with h | h <;> omega
            subst this
            rw [er] at hb; cases hb
            exact o.as _ _ hlr
          · rename_i hlr
            refine step _ (.inr rfl) hl2 fun c a b hc n ha hb => ?_
            rw [er] at ha; cases ha
            have : c = 2 * pos + 1 := by rcases hc with h | h <;> omega
            subst this
            rw [el] at hb; cases hb
            simpa using hlr
        · rename_i hl2
          refine step _ (.inl rfl) hl1 fun c a b hc n ha hb => ?_
          have : c = 2 * pos + 1 + 1 := by rcases hc with h | h <;> omega
          subst this
          rw [List.getElem?_eq_none (by omega)] at hb
          cases hb
      · rename_i hlt
        refine ih false pos top after xs hp ?_ hat hd h1 h2 (fun h => by cases h) (fun _ => ⟨fun p c a b hc hp' n ha hb => ?_, D.g⟩)
        · unfold need at hf ⊢
          simp only [if_true, Bool.false_eq_true, if_false] at hf ⊢
          omega
        · by_cases k : p = pos
          · subst k
            have hcl : c < xs.length := by
              rcases Nat.lt_or_ge c xs.length with h | h
              · exact h
              · rw [List.getElem?_eq_none h] at hb; cases hb
            rcases hc with h | h <;> omega
          · exact D.e p c a b hc hp' k n ha hb
    | false =>
      have U := hU rfl
      unfold sift
      have hn : need xs.length true after.toNat (after - 1) ≤ f ∨ after < 0 := by
        by_cases ha : after < 0
        · exact .inr ha
        · left
          unfold need at hf ⊢
          simp only [if_true, Bool.false_eq_true, if_false] at hf ⊢
          have e : (after + 1).toNat = (after - 1 + 1).toNat + 1 := by omega
          rw [e, Nat.add_mul] at hf
          have := hd.le
          omega
      split
      · rename_i hpt
        have hq := ch_of (c := pos) (by omega)
        have hql := hq.l
        obtain ⟨x, ex⟩ : ∃ l, xs[pos]? = some l := ⟨_, List.getElem?_eq_getElem hp⟩
        obtain ⟨p0, ep⟩ : ∃ r, xs[(pos - 1) / 2]? = some r := ⟨_, List.getElem?_eq_getElem (by omega)⟩
        rw [ex, ep]
        simp only [Option.bind_some]
        split
        · rename_i hx
          obtain ⟨ys, x', y', e, e1, e2, e3, e4, e5, e6⟩ := hsw_some (xs := xs) (i := (pos - 1) / 2) (j := pos) (by omega) hp (by omega)
          rw [ep] at e1; cases e1
          rw [ex] at e2; cases e2
          rw [e]
          have hdq := hd.par hpt
          refine ih false ((pos - 1) / 2) top after ys (by omega) ?_ hat hdq h1 h2 (fun h => by cases h) (fun _ => ⟨fun p c a b hc hp' n ha hb => ?_, fun p c a b hc hp' hc2 ha hb => ?_⟩)
          · unfold need at hf ⊢
            rw [e6]
            simp only [Bool.false_eq_true, if_false] at hf ⊢
            omega
          · by_cases k1 : p = (pos - 1) / 2
            · subst k1
              rw [e3] at ha; cases ha
              by_cases k2 : c = pos
              · subst k2
                rw [e4] at hb; cases hb
                exact o.as _ _ hx
              · have l3 := hc.l
                rw [e5 c (by omega) k2] at hb
                exact o.tr _ _ _ (o.as _ _ hx) (U.e _ c _ _ hc hp' k2 ep hb)
            · by_cases k2 : p = pos
              · subst k2
                rw [e4] at ha; cases ha
                have l3 := hc.l
                rw [e5 c (by omega) (by omega)] at hb
                exact U.g _ c _ _ hq hpt hc ep hb
              · have k3 : c ≠ pos := fun z => by subst z; exact k1 (hc.inj hq)
                rw [e5 p k1 k2] at ha
                rw [e5 c n k3] at hb
                exact U.e p c a b hc hp' k3 ha hb
          · have l3 := hc.l
            have l4 := hc2.l
            rw [e5 p (by omega) (by omega)] at ha
            have hp2 : top ≤ p := by
              have := (hdq.par hp').le
              rw [← hc.par] at this
              exact this
            have u1 := U.e p _ _ _ hc hp2 (by omega) ha ep
            by_cases k2 : c = pos
            · subst k2
              rw [e4] at hb; cases hb
              exact u1
            · rw [e5 c (by omega) k2] at hb
              exact o.tr _ _ _ u1 (U.e _ c _ _ hc2 hdq.le k2 ep hb)
        · rename_i hx
          refine next xs rfl (up_done o U hd fun _ p a b hc ha hb => ?_) hn
          have : p = (pos - 1) / 2 := hc.par
          subst this
          rw [ep] at ha; cases ha
          rw [ex] at hb; cases hb
          simpa using hx
      · rename_i hpt
        exact next xs rfl (up_done o U hd fun h => absurd h hpt) hn
theorem heap_min (o : Ord lt) (re : ∀ a, lt a a = false) {xs : List α} (h : HeapFrom lt 0 xs) : ∀ (i : Nat) (a b : α), xs[0]? = some a → xs[i]? = some b → lt b a = false := by
  intro i
  induction i using Nat.strongRecOn with
  | ind i ih =>
    intro a b ha hb
    by_cases e : i = 0
    · subst e
      rw [ha] at hb; cases hb
      exact re a
    · have hc := ch_of (c := i) (by omega)
      have hi : i < xs.length := by
        rcases Nat.lt_or_ge i xs.length with h | h
        · exact h
        · rw [List.getElem?_eq_none h] at hb; cases hb
      obtain ⟨p, ep⟩ : ∃ r, xs[(i - 1) / 2]? = some r := ⟨_, List.getElem?_eq_getElem (by omega)⟩
      exact o.tr _ _ _ (ih _ (by omega) a p ha ep) (h _ i p b hc (Nat.zero_le _) ep hb)
theorem heap_nil : HeapFrom lt 0 ([] : List α) := fun p c a b _ _ h _ => by simp at h
theorem push_ok (o : Ord lt) {xs : List α} {x : α} (h : HeapFrom lt 0 xs) : ∃ ys, pushH lt xs x = some ys ∧ HeapFrom lt 0 ys ∧ ys.Perm (xs ++ [x]) := by
  have U : Up lt 0 xs.length (xs ++ [x]) := by
    refine ⟨fun p c a b hc _ n ha hb => ?_, fun p c a b _ _ hc _ hb => ?_⟩
    · have l := hc.l
      have hcl : c < (xs ++ [x]).length := by
        rcases Nat.lt_or_ge c (xs ++ [x]).length with h | h
        · exact h
        · rw [List.getElem?_eq_none h] at hb; cases hb
      rw [List.length_append, List.length_singleton] at hcl
      rw [List.getElem?_append_left (by omega)] at ha hb
      exact h p c a b hc (Nat.zero_le _) ha hb
    · have l := hc.l
      rw [List.getElem?_eq_none (by simp; omega)] at hb
      cases hb
  have fu : need (xs ++ [x]).length false xs.length (-1) ≤ fuelH xs.length := by
    have : xs.length + 4 ≤ (xs.length + 4) * (xs.length + 4) := Nat.le_mul_of_pos_left _ (by omega)
    unfold need fuelH
    rw [if_neg (by decide), show ((-1 : Int) + 1).toNat = 0 from rfl]
    omega
  obtain ⟨ys, e, hh⟩ := sift_ok o (fuelH xs.length) false xs.length 0 (-1) (xs ++ [x]) (by simp) fu (by omega) (desc0 _) (fun h => by omega) (fun _ => rfl) (fun h => by cases h) (fun _ => U)
  exact ⟨ys, e, hh, sift_perm _ _ _ _ _ _ _ e⟩
theorem pop_ok (o : Ord lt) (re : ∀ a, lt a a = false) {xs : List α} (h : HeapFrom lt 0 xs) (hn : xs ≠ []) : ∃ y ys, popH lt xs = some (y, ys) ∧ HeapFrom lt 0 ys ∧ (y :: ys).Perm xs ∧ ∀ z ∈ xs, lt z y = false := by
  have mn : ∀ a r, xs = a :: r → ∀ z ∈ xs, lt z a = false := fun a r e z hz => by
    obtain ⟨i, hi, ez⟩ := List.getElem_of_mem hz
    exact heap_min o re h i a z (by rw [e]; rfl) (by rw [List.getElem?_eq_getElem hi, ez])
  match xs, hn with
  | [a], _ => exact ⟨a, [], rfl, heap_nil, List.Perm.refl _, mn a [] rfl⟩
  | a :: b :: r, _ =>
    have hlast : (a :: b :: r)[(a :: b :: r).length - 1]? = some ((b :: r).getLast (by simp)) := by
      rw [← List.getLast?_eq_getElem?, List.getLast?_cons_cons, List.getLast?_eq_some_getLast (by simp)]
    have ed : ((a :: b :: r).dropLast).set 0 ((b :: r).getLast (by simp)) = (b :: r).getLast (by simp) :: (b :: r).dropLast := rfl
    have ln : ((b :: r).getLast (by simp) :: (b :: r).dropLast).length = r.length + 1 := by simp
    have D : Down lt 0 0 ((b :: r).getLast (by simp) :: (b :: r).dropLast) := start_down fun p c a' b' hc hp ha hb => by
      have l := hc.l
      have hcl : c < ((b :: r).getLast (by simp) :: (b :: r).dropLast).length := by
        rcases Nat.lt_or_ge c ((b :: r).getLast (by simp) :: (b :: r).dropLast).length with h | h
        · exact h
        · rw [List.getElem?_eq_none h] at hb; cases hb
      rw [ln] at hcl
      have key : ∀ k, 0 < k → k < r.length + 1 → ((b :: r).getLast (by simp) :: (b :: r).dropLast)[k]? = (a :: b :: r)[k]? := fun k h1 h2 => by
        obtain ⟨j, rfl⟩ : ∃ j, k = j + 1 := ⟨k - 1, by omega⟩
        rw [List.getElem?_cons_succ, List.getElem?_cons_succ, List.getElem?_dropLast]
        rw [if_pos (by simp; omega)]
      rw [key p (by omega) (by omega)] at ha
      rw [key c (by omega) (by omega)] at hb
      exact h p c a' b' hc (Nat.zero_le _) ha hb
    have fu : need ((b :: r).getLast (by simp) :: (b :: r).dropLast).length true 0 (-1) ≤ fuelH (r.length + 2) := by
      have : r.length + 2 + 4 ≤ (r.length + 2 + 4) * (r.length + 2 + 4) := Nat.le_mul_of_pos_left _ (by omega)
      unfold need fuelH
      rw [ln, if_pos rfl, show ((-1 : Int) + 1).toNat = 0 from rfl]
      omega
    obtain ⟨ys, e, hh⟩ := sift_ok o (fuelH (r.length + 2)) true 0 0 (-1) ((b :: r).getLast (by simp) :: (b :: r).dropLast) (by simp) fu (by omega) .here (fun h => by omega) (fun _ => rfl) (fun _ => D) (fun h => by cases h)
    refine ⟨a, ys, ?_, hh, ?_, mn a _ rfl⟩
    · unfold popH
      simp only [hlast, Option.bind_some, ed, e, Option.map_some]
    · refine List.Perm.cons a ((sift_perm _ _ _ _ _ _ _ e).trans ?_)
      have := (List.dropLast_concat_getLast (l := b :: r) (by simp))
      refine (List.perm_append_comm (l₁ := [(b :: r).getLast (by simp)]) (l₂ := (b :: r).dropLast)).trans ?_
      rw [this]
theorem ify_ok (o : Ord lt) {xs : List α} (hz : xs.length ≤ 2500) : ∃ ys, ifyH lt xs = some ys ∧ HeapFrom lt 0 ys ∧ ys.Perm xs := by
  unfold ifyH
  rw [if_neg (by omega)]
  have ends : ∀ p c, Ch p c → xs.length / 2 ≤ p → xs.length ≤ c := fun p c hc h => by rcases hc with h | h <;> omega
  split
  · rename_i hl
    refine ⟨xs, rfl, fun p c a b hc _ ha hb => ?_, List.Perm.refl _⟩
    rw [List.getElem?_eq_none (ends p c hc (by omega))] at hb
    cases hb
  · rename_i hl
    have D : Down lt (xs.length / 2 - 1) (xs.length / 2 - 1) xs := start_down fun p c a b hc hp ha hb => by
      rw [List.getElem?_eq_none (ends p c hc (by omega))] at hb
      cases hb
    have fu : need xs.length true (xs.length / 2 - 1) ((xs.length / 2 : Nat) - 2 : Int) ≤ fuelH xs.length := by
      have m1 : xs.length + 4 ≤ (xs.length + 4) * (xs.length + 4) := Nat.le_mul_of_pos_left _ (by omega)
      have m2 : (((xs.length / 2 : Nat) - 2 : Int) + 1).toNat * (2 * xs.length + 4) ≤ (xs.length + 4) * (2 * (xs.length + 4)) := Nat.mul_le_mul (by omega) (by omega)
      have m3 : (xs.length + 4) * (2 * (xs.length + 4)) = 2 * ((xs.length + 4) * (xs.length + 4)) := by rw [Nat.mul_left_comm]
      unfold need fuelH
      rw [if_pos rfl]
      omega
    obtain ⟨ys, e, hh⟩ := sift_ok o (fuelH xs.length) true (xs.length / 2 - 1) (xs.length / 2 - 1) ((xs.length / 2 : Nat) - 2 : Int) xs (by omega) fu (by omega) .here (fun h => by omega) (fun h => by omega) (fun _ => D) (fun h => by cases h)
    exact ⟨ys, e, hh, sift_perm _ _ _ _ _ _ _ e⟩
end
end Hq

/-! Md11: working mirrors out. -/
namespace Md
open PySem PySem.Spec PyProof.Rows L2 Pd
theorem yComp_fm {α : Type} {gd : Sto → Bool} {turn : W → Sto → Option (Option W × Sto)} {μ : Sto} {e : α → W} {o : α → Option W} (hg : gd μ = true) : ∀ {l : List α}, (∀ a ∈ l, turn (e a) μ = some (o a, μ)) → yComp gd turn (l.map e) μ = some (l.filterMap o, μ)
  | [], _ => rfl
  | a :: l, h => by
    rw [List.map_cons]
    unfold yComp
    rw [h a List.mem_cons_self, Option.bind_some]
    simp only [hg, if_true]
    rw [yComp_fm hg fun b hb => h b (List.mem_cons_of_mem _ hb), List.filterMap_cons]
    cases o a <;> rfl
theorem yLc_fm {α : Type} {mi : YM YIt} {vs : List Nat} {g : W → YF → Option YF} {mt : YM Bool} {me : YM W} {ρ : YF} {μ μ' : Sto} {gd : Sto → Bool} {e : α → W} {o : α → Option W} {l : List α} (hi : mi ρ μ = some ((l.map e, gd), μ')) (hg : gd μ' = true) (hl : l.length ≤ sizeLine) (h : ∀ a ∈ l, yTurn g mt me (wipeY ρ vs) (e a) μ' = some (o a, μ')) : yLc mi vs g mt me ρ μ = some (l.filterMap o, μ') := by
  unfold yLc
  rw [hi, Option.bind_some, if_pos (by rw [List.length_map]; exact hl)]
  exact yComp_fm hg h
theorem yLc_map {α : Type} {mi : YM YIt} {vs : List Nat} {g : W → YF → Option YF} {mt : YM Bool} {me : YM W} {ρ : YF} {μ μ' : Sto} {gd : Sto → Bool} {e : α → W} {o : α → W} {l : List α} (hi : mi ρ μ = some ((l.map e, gd), μ')) (hg : gd μ' = true) (hl : l.length ≤ sizeLine) (h : ∀ a ∈ l, yTurn g mt me (wipeY ρ vs) (e a) μ' = some (some (o a), μ')) : yLc mi vs g mt me ρ μ = some (l.map o, μ') := by
  rw [yLc_fm (o := fun a => some (o a)) hi hg hl h]
  rw [show (fun a => some (o a)) = some ∘ o from rfl, List.filterMap_eq_map]
theorem allDa_iW : ∀ ns : List Int, allDa (ns.map iW) = some (ns.map .int)
  | [] => rfl
  | n :: ns => by
    show (allDa (ns.map iW)).map _ = _
    rw [allDa_iW ns]; rfl
theorem allDa_pW : ∀ ps : List (Int × Int), allDa (ps.map pW) = some (ps.map pD)
  | [] => rfl
  | n :: ns => by
    show (allDa (ns.map pW)).map _ = _
    rw [allDa_pW ns]; rfl
theorem wInts_iW : ∀ ns : List Int, wInts (ns.map iW) = some ns
  | [] => rfl
  | n :: ns => by
    show (wInts (ns.map iW)).map (n :: ·) = _
    rw [wInts_iW ns]; rfl
theorem sortW_iW (ns : List Int) : sortW (ns.map iW) = some ((ns.mergeSort leI).map iW) := by
  unfold sortW
  rw [wInts_iW]
theorem sortW_pW (ps : List (Int × Int)) : sortW (ps.map pW) = some ((ps.mergeSort leP).map pW) := by
  unfold sortW
  cases ps with
  | nil => simp [wInts]
  | cons p ps =>
    rw [show wInts ((p :: ps).map pW) = none from rfl]
    simp only [wPs_map, Option.map_some]
theorem gdL_self {n : Nat} {ws : List W} {μ : Sto} (h : μ[n]? = some (.lst ws)) : gdL n ws μ = true := by
  unfold gdL
  simp [h, eqWs_self]
theorem gdQ_self {n : Nat} {k : Int} {ns : List Int} {μ : Sto} (h : μ[n]? = some (.deq k ns)) : gdQ n k ns μ = true := by
  unfold gdQ
  simp [h]
/-- a loop by an invariant -/
theorem yForL_inv {α : Type} {gd : Sto → Bool} {g : W → YF → Option YF} {b : YM YO} {e : α → W} (I : List α → YF → Sto → Prop) : ∀ {l done : List α} {ρ : YF} {μ : Sto}, I done ρ μ →
    (∀ d a ρ μ, I d ρ μ → (∃ r, done ++ l = d ++ a :: r) → ∃ ρ1 ρ2 μ2, g (e a) ρ = some ρ1 ∧ b ρ1 μ = some (.nx ρ2, μ2) ∧ gd μ2 = true ∧ I (d ++ [a]) ρ2 μ2) →
    ∃ ρ' μ', yForL gd g b (l.map e) ρ μ = some (.nx ρ', μ') ∧ I (done ++ l) ρ' μ'
  | [], done, ρ, μ, h, _ => ⟨ρ, μ, rfl, by rw [List.append_nil]; exact h⟩
  | a :: l, done, ρ, μ, h, step => by
    obtain ⟨ρ1, ρ2, μ2, e1, e2, e3, h2⟩ := step done a ρ μ h ⟨l, rfl⟩
    obtain ⟨ρ', μ', e4, h4⟩ := yForL_inv I (l := l) h2 (fun d x ρ μ hi ⟨r, hr⟩ => step d x ρ μ hi ⟨r, by rw [← hr, List.append_assoc]; rfl⟩)
    refine ⟨ρ', μ', ?_, by rw [List.append_assoc] at h4; exact h4⟩
    rw [List.map_cons]
    unfold yForL
    rw [e1, Option.bind_some, e2, Option.bind_some]
    simp only [e3, if_true]
    exact e4
/-! ### order of pairs -/
theorem ltP_ord : Hq.Ord ltP where
  tr a b c h1 h2 := by
    unfold ltP at *
    split at h1 <;> split at h2 <;> split <;> simp only [decide_eq_false_iff_not] at * <;> omega
  as a b h := by
    unfold ltP at *
    split at h <;> split <;> simp only [decide_eq_false_iff_not, decide_eq_true_eq] at * <;> omega
theorem ltP_re (a : Int × Int) : ltP a a = false := by
  unfold ltP
  rw [if_pos rfl]
  simp
abbrev HeapP (ps : List (Int × Int)) : Prop := Hq.HeapFrom ltP 0 ps
theorem leP_of {a b : Int × Int} (h : ltP b a = false) : leP a b = true := by
  unfold ltP leP at *
  split at h <;> simp only [decide_eq_false_iff_not, decide_eq_true_eq] at * <;> omega
theorem leP_trans (a b c : Int × Int) (h1 : leP a b = true) (h2 : leP b c = true) : leP a c = true := by
  unfold leP at *
  simp only [decide_eq_true_eq] at *
  omega
theorem leP_total (a b : Int × Int) : (leP a b || leP b a) = true := by
  unfold leP
  simp only [Bool.or_eq_true, decide_eq_true_eq]
  omega
theorem leP_anti (a b : Int × Int) (h1 : leP a b = true) (h2 : leP b a = true) : a = b := by
  unfold leP at *
  simp only [decide_eq_true_eq] at *
  have : a.1 = b.1 ∧ a.2 = b.2 := by omega
  exact Prod.ext this.1 this.2
/-- the least of a heap stands first when sorted -/
theorem sort_min {ps ps' : List (Int × Int)} {p : Int × Int} (pm : (p :: ps').Perm ps) (mn : ∀ z ∈ ps, ltP z p = false) : ps.mergeSort leP = p :: ps'.mergeSort leP := by
  have s1 := List.pairwise_mergeSort leP_trans leP_total ps
  have s2 : (p :: ps'.mergeSort leP).Pairwise fun a b => leP a b = true := by
    refine List.pairwise_cons.mpr ⟨fun z hz => ?_, List.pairwise_mergeSort leP_trans leP_total ps'⟩
    have hz' : z ∈ ps' := (List.mergeSort_perm ps' leP).mem_iff.mp hz
    exact leP_of (mn z (pm.mem_iff.mp (List.mem_cons_of_mem _ hz')))
  exact List.Perm.eq_of_pairwise (fun a b _ _ => leP_anti a b) s1 s2 ((List.mergeSort_perm ps leP).trans (pm.symm.trans (List.Perm.cons p (List.mergeSort_perm ps' leP).symm)))
theorem sort_perm {ps qs : List (Int × Int)} (pm : ps.Perm qs) : ps.mergeSort leP = qs.mergeSort leP :=
  List.Perm.eq_of_pairwise (fun a b _ _ => leP_anti a b) (List.pairwise_mergeSort leP_trans leP_total ps) (List.pairwise_mergeSort leP_trans leP_total qs) ((List.mergeSort_perm ps leP).trans (pm.trans (List.mergeSort_perm qs leP).symm))
/-- the dict of some numbers -/
def goneK (gs : List Int) (acc : List (Key × D)) : List (Key × D) := gs.foldl (fun r n => putD r (.inl n) (.bool true)) acc
theorem compK_gone {f : D → Option (Option (Key × D))} : ∀ {gs : List Int} {acc : List (Key × D)}, (∀ n ∈ gs, f (.int n) = some (some (.inl n, .bool true))) → compK f (gs.map .int) acc = some (goneK gs acc)
  | [], _, _ => rfl
  | n :: gs, acc, h => by
    rw [List.map_cons]
    unfold compK
    rw [h n List.mem_cons_self]
    exact compK_gone fun m hm => h m (List.mem_cons_of_mem _ hm)
theorem putD_find {ks : List (Key × D)} {k j : Key} {d : D} : ((putD ks k d).find? fun p => decide (p.1 = j)).isSome = (decide (k = j) || (ks.find? fun p => decide (p.1 = j)).isSome) := by
  rw [Bool.eq_iff_iff, Bool.or_eq_true, List.find?_isSome, List.find?_isSome, decide_eq_true_eq]
  simp only [decide_eq_true_eq]
  unfold putD
  split
  · rename_i h
    obtain ⟨p, hp, e⟩ := List.any_eq_true.mp h
    constructor
    · rintro ⟨x, hx, e2⟩
      obtain ⟨y, hy, rfl⟩ := List.mem_map.mp hx
      right
      refine ⟨y, hy, ?_⟩
      split at e2
      · exact e2
      · exact e2
    · rintro (h | ⟨x, hx, e2⟩)
      · refine ⟨_, List.mem_map.mpr ⟨p, hp, rfl⟩, ?_⟩
        rw [if_pos (of_decide_eq_true e)]
        rw [of_decide_eq_true e]; exact h
      · refine ⟨_, List.mem_map.mpr ⟨x, hx, rfl⟩, ?_⟩
        split
        · exact e2
        · exact e2
  · constructor
    · rintro ⟨x, hx, e2⟩
      rcases List.mem_append.mp hx with hx | hx
      · exact .inr ⟨x, hx, e2⟩
      · rcases List.mem_singleton.mp hx with rfl
        exact .inl e2
    · rintro (h | ⟨x, hx, e2⟩)
      · exact ⟨(k, d), List.mem_append_right _ (List.mem_singleton.mpr rfl), h⟩
      · exact ⟨x, List.mem_append_left _ hx, e2⟩
theorem goneK_find (n : Int) : ∀ {gs : List Int} {acc : List (Key × D)}, ((goneK gs acc).find? fun p => decide (p.1 = .inl n)).isSome = (decide (n ∈ gs) || (acc.find? fun p => decide (p.1 = .inl n)).isSome)
  | [], acc => by simp [goneK]
  | m :: gs, acc => by
    show ((goneK gs (putD acc (.inl m) (.bool true))).find? _).isSome = _
    rw [goneK_find n, putD_find, ← Bool.or_assoc]
    congr 1
    rw [Bool.eq_iff_iff]
    simp only [Bool.or_eq_true, decide_eq_true_eq, List.mem_cons, Sum.inl.injEq]
    constructor
    · rintro (h | h)
      · exact .inr h
      · exact .inl h.symm
    · rintro (h | h)
      · exact .inr h.symm
      · exact .inl h
theorem goneK_not (n : Int) (gs : List Int) : dNotInK (.int n) (dictD (goneK gs [])) = some (.bool (!decide (n ∈ gs))) := by
  unfold dNotInK dictD
  show (some (PyData.bool (!(dGetV ((goneK gs []).map fun p => (kD p.1, p.2)) (.inl n)).isSome)) : Option D) = _
  rw [dGetV_dictD, Option.isSome_map, goneK_find]
  simp
theorem goneK_hard : ∀ {gs : List Int} {acc : List (Key × D)}, hardK acc = true → hardK (goneK gs acc) = true
  | [], _, h => h
  | n :: gs, acc, h => by
    refine goneK_hard (gs := gs) ?_
    have hk : ∀ l : List (Key × D), hardK l = true ↔ ∀ p ∈ l, hard p.2 = true := by
      intro l
      induction l with
      | nil => simp [hardK]
      | cons p l ih => simp [hardK, ih]
    rw [hk] at h ⊢
    intro p hp
    have hp : p ∈ putD acc (.inl n) (.bool true) := hp
    unfold putD at hp
    split at hp
    · obtain ⟨q, hq, rfl⟩ := List.mem_map.mp hp
      split
      · rfl
      · exact h q hq
    · rcases List.mem_append.mp hp with hp | hp
      · exact h p hp
      · rcases List.mem_singleton.mp hp with rfl
        rfl
/-! ### steps -/
section
variable {ρ ρ1 ρ2 : YF} {μ μ1 μ2 μ3 : Sto}
theorem y2_of {f : D → D → Option D} {a b : YM W} {x y z : D} (h1 : a ρ μ = some (.da x, μ1)) (h2 : b ρ μ1 = some (.da y, μ2)) (h : f x y = some z) : y2 f a b ρ μ = some (.da z, μ2) := by
  unfold y2; rw [h1, Option.bind_some, h2, Option.bind_some]; simp only [h, Option.map_some]
theorem yL_of {m : YM (List W)} {ws : List W} {ds : List D} (h : m ρ μ = some (ws, μ1)) (e : allDa ws = some ds) : yL m ρ μ = some (.da (.list ds), μ1) := by
  unfold yL; rw [h, Option.bind_some]; simp only [e, Option.map_some]
theorem yLC_of {m : YM (List W)} {ws : List W} (h : m ρ μ = some (ws, μ1)) : yLC m ρ μ = some (.rf μ1.length, μ1 ++ [.lst ws]) := by
  unfold yLC; rw [h]; rfl
theorem yRet_of {a : YM W} {w : W} (h : a ρ μ = some (w, μ1)) : yRet a ρ μ = some (.rt w, μ1) := by
  unfold yRet; rw [h]; rfl
theorem yDrop_of {a : YM W} {w : W} (h : a ρ μ = some (w, μ1)) : yDrop a ρ μ = some (.nx ρ, μ1) := by
  unfold yDrop; rw [h]; rfl
theorem yAsg_of {a : YM W} {w : W} {g : W → YF → Option YF} (h : a ρ μ = some (w, μ1)) (e : g w ρ = some ρ1) : yAsg a g ρ μ = some (.nx ρ1, μ1) := by
  unfold yAsg; rw [h, Option.bind_some, e]; rfl
theorem ySeq_nx {a b : YM YO} (h : a ρ μ = some (.nx ρ1, μ1)) : ySeq a b ρ μ = b ρ1 μ1 := by
  unfold ySeq; rw [h]; rfl
theorem ySeq_rt {a b : YM YO} {w : W} (h : a ρ μ = some (.rt w, μ1)) : ySeq a b ρ μ = some (.rt w, μ1) := by
  unfold ySeq; rw [h]; rfl
theorem yIfS_t {c : YM Bool} {a b : YM YO} (h : c ρ μ = some (true, μ1)) : yIfS c a b ρ μ = a ρ μ1 := by
  unfold yIfS; rw [h]; rfl
theorem yIfS_f {c : YM Bool} {a b : YM YO} (h : c ρ μ = some (false, μ1)) : yIfS c a b ρ μ = b ρ μ1 := by
  unfold yIfS; rw [h]; rfl
theorem runY_rt {np nl : Nat} {m : YM YO} {ws : List W} {w : W} (hl : ws.length = np) (h : m (startY nl ws) μ = some (.rt w, μ1)) : runY np nl m ws μ = some (w, μ1) := by
  unfold runY; rw [if_pos hl, h]; rfl
theorem runY_nx {np nl : Nat} {m : YM YO} {ws : List W} (hl : ws.length = np) (h : m (startY nl ws) μ = some (.nx ρ1, μ1)) : runY np nl m ws μ = some (.da .none, μ1) := by
  unfold runY; rw [if_pos hl, h]; rfl
theorem yMeth_of {c n : Nat} {g : YFun} {o : YM W} {m : YM (List W)} {fs : List W} {ws : List W} {r : W} (h1 : o ρ μ = some (.rf n, μ1)) (h2 : μ1[n]? = some (.ins c fs)) (h3 : m ρ μ1 = some (ws, μ2)) (h4 : g (.rf n :: ws) μ2 = some (r, μ3)) : yMeth c g o m ρ μ = some (r, μ3) := by
  unfold yMeth; rw [h1, Option.bind_some]; simp only [h2, if_true, h3, Option.bind_some, h4]
theorem yCall_of {g : YFun} {m : YM (List W)} {ws : List W} {r : W} (h3 : m ρ μ = some (ws, μ1)) (h4 : g ws μ1 = some (r, μ2)) : yCall g m ρ μ = some (r, μ2) := by
  unfold yCall; rw [h3, Option.bind_some]; exact h4
theorem ySetA_of {c i n : Nat} {a o : YM W} {w : W} {ws ws' : List W} (h1 : a ρ μ = some (w, μ1)) (h2 : o ρ μ1 = some (.rf n, μ2)) (h3 : μ2[n]? = some (.ins c ws)) (h4 : wSet i w ws = some ws') : ySetA c i a o ρ μ = some (.nx ρ, μ2.set n (.ins c ws')) := by
  unfold ySetA; rw [h1, Option.bind_some, h2, Option.bind_some]
  simp [h3, h4]
theorem yCons_of {a : YM W} {r : YM (List W)} {w : W} {ws : List W} (h1 : a ρ μ = some (w, μ1)) (h2 : r ρ μ1 = some (ws, μ2)) : yCons a r ρ μ = some (w :: ws, μ2) := by
  unfold yCons; rw [h1, Option.bind_some, h2]; rfl
theorem yMC_of {f : LF} {n : Nat} {o : YM W} {m : YM (List W)} {ws us ws' : List W} {r : W} (h1 : o ρ μ = some (.rf n, μ1)) (h0 : ∃ vs, μ1[n]? = some (.lst vs)) (h2 : m ρ μ1 = some (us, μ2)) (h3 : μ2[n]? = some (.lst ws)) (h4 : f ws us = some (r, ws')) : yMC f o m ρ μ = some (r, μ2.set n (.lst ws')) := by
  obtain ⟨vs, h0⟩ := h0
  unfold yMC isL
  simp [h1, h0, h2, h3, h4]
end
end Md

/-! Md12: equality of data, worked out. -/
namespace Md
open PySem PySem.Spec PyProof.Rows L2 Pd
theorem dEq_int (a b : Int) : dEq (.int a) (.int b) = some (.bool (a == b)) := by
  unfold dEq
  rw [if_pos (show (SeqAt.shaped (.int a) && SeqAt.shaped (.int b)) = true from rfl)]
  simp only [PyData.eqv]
theorem shaped_str {x : Str} (h : PyData.strOk x = true) : SeqAt.shaped (.str x) = true := by
  simp only [SeqAt.shaped, PyData.canLay0, PyData.depth, h, Bool.true_and]
  rfl
theorem dEq_str {a b : Str} (ha : PyData.strOk a = true) (hb : PyData.strOk b = true) : dEq (.str a) (.str b) = some (.bool (a == b)) := by
  unfold dEq
  rw [if_pos (by rw [shaped_str ha, shaped_str hb]; rfl)]
  simp only [PyData.eqv]
theorem dNe_str {a b : Str} (ha : PyData.strOk a = true) (hb : PyData.strOk b = true) : dNe (.str a) (.str b) = some (.bool (!(a == b))) := by
  unfold dNe
  rw [if_pos (by rw [shaped_str ha, shaped_str hb]; rfl)]
  simp only [PyData.eqv]
/-! ### data that equal themselves -/
mutual
theorem eqv_self : ∀ d : D, d.canLay0 = true → PyData.eqv d d = true
  | .none, _ => by simp only [PyData.eqv]
  | .bool b, _ => by simp [PyData.eqv]
  | .int i, _ => by simp [PyData.eqv]
  | .str x, _ => by simp [PyData.eqv]
  | .list l, h => by
    simp only [PyData.canLay0] at h
    simp only [PyData.eqv]
    exact eqvAll_self l h
  | .tuple l, h => by
    simp only [PyData.canLay0] at h
    simp only [PyData.eqv]
    exact eqvAll_self l h
  | .dict l, h => by
    simp only [PyData.canLay0] at h
    cases h
theorem eqvAll_self : ∀ l : List D, PyData.canLayAll0 l = true → PyData.eqvAll l l = true
  | [], _ => by simp only [PyData.eqvAll]
  | d :: l, h => by
    simp only [PyData.canLayAll0, Bool.and_eq_true] at h
    simp only [PyData.eqvAll, eqv_self d h.1, eqvAll_self l h.2, Bool.and_self]
end
theorem dNe_self {d : D} (h : SeqAt.shaped d = true) : dNe d d = some (.bool false) := by
  unfold dNe
  rw [if_pos (by rw [h]; rfl), eqv_self d (shaped_lay h)]
  rfl
theorem shaped_list {l : List D} (h : ∀ d ∈ l, d.canLay0 = true ∧ d.depth ≤ 10) : SeqAt.shaped (.list l) = true := by
  have key : ∀ l : List D, (∀ d ∈ l, d.canLay0 = true ∧ d.depth ≤ 10) → PyData.canLayAll0 l = true ∧ PyData.depthAll l ≤ 10 := by
    intro l
    induction l with
    | nil => intro _; exact ⟨by simp only [PyData.canLayAll0], by simp only [PyData.depthAll]; omega⟩
    | cons d l ih =>
      intro h
      obtain ⟨a, b⟩ := ih fun x hx => h x (List.mem_cons_of_mem _ hx)
      obtain ⟨c, e⟩ := h d List.mem_cons_self
      exact ⟨by simp only [PyData.canLayAll0, a, c, Bool.and_self], by simp only [PyData.depthAll]; omega⟩
  obtain ⟨a, b⟩ := key l h
  unfold SeqAt.shaped
  rw [Bool.and_eq_true]
  refine ⟨by simp only [PyData.canLay0]; exact a, decide_eq_true ?_⟩
  simp only [PyData.depth]
  omega
theorem str_lay {x : Str} (h : PyData.strOk x = true) : (PyData.str x).canLay0 = true ∧ (PyData.str x).depth ≤ 10 := by
  constructor
  · simp only [PyData.canLay0, h]
  · simp only [PyData.depth]
    omega
theorem int_lay (i : Int) : (PyData.int i).canLay0 = true ∧ (PyData.int i).depth ≤ 10 := by
  constructor
  · simp only [PyData.canLay0]
  · simp only [PyData.depth]
    omega
theorem dNe_int (a b : Int) : dNe (.int a) (.int b) = some (.bool (!(a == b))) := by
  unfold dNe
  rw [if_pos (show (SeqAt.shaped (.int a) && SeqAt.shaped (.int b)) = true from rfl)]
  simp only [PyData.eqv]
theorem dEq_self {d : D} (h : SeqAt.shaped d = true) : dEq d d = some (.bool true) := by
  unfold dEq
  rw [if_pos (by rw [h]; rfl), eqv_self d (shaped_lay h)]
theorem ints_ok (ns : List Int) : SeqAt.shaped (.list (ns.map PyData.int)) = true := shaped_list fun d hd => by
  obtain ⟨i, _, rfl⟩ := List.mem_map.mp hd
  exact int_lay i
/-! ### cells as data -/
theorem dat_da (μ : Sto) (k : Nat) (d : D) : dat μ k (.da d) = some d := by cases k <;> rfl
theorem allO_map {α : Type} {f : W → Option D} {e : α → W} {o : α → D} : ∀ {l : List α}, (∀ a ∈ l, f (e a) = some (o a)) → allO f (l.map e) = some (l.map o)
  | [], _ => rfl
  | a :: l, h => by
    rw [List.map_cons]
    unfold allO
    rw [h a List.mem_cons_self, Option.bind_some, allO_map fun b hb => h b (List.mem_cons_of_mem _ hb)]
    rfl
theorem allK_map {α : Type} {f : W → Option D} {k : α → Key} {e : α → W} {o : α → D} : ∀ {l : List α}, (∀ a ∈ l, f (e a) = some (o a)) → allK f (l.map fun a => (k a, e a)) = some (l.map fun a => (kD (k a), o a))
  | [], _ => rfl
  | a :: l, h => by
    rw [List.map_cons]
    unfold allK
    rw [h a List.mem_cons_self, Option.bind_some, allK_map fun b hb => h b (List.mem_cons_of_mem _ hb)]
    rfl
theorem dat_lst {α : Type} {μ : Sto} {n k : Nat} {e : α → W} {o : α → D} {l : List α} (h : μ[n]? = some (.lst (l.map e))) (f : ∀ a ∈ l, dat μ k (e a) = some (o a)) : dat μ (k + 1) (.rf n) = some (.list (l.map o)) := by
  show (match μ[n]? with | some (.lst ws) => (allO (dat μ k) ws).map PyData.list | some (.dct kws) => (allK (dat μ k) kws).map PyData.dict | _ => none) = _
  rw [h]
  simp only [allO_map f, Option.map_some]
theorem dat_dct {α : Type} {μ : Sto} {n k : Nat} {ky : α → Key} {e : α → W} {o : α → D} {l : List α} (h : μ[n]? = some (.dct (l.map fun a => (ky a, e a)))) (f : ∀ a ∈ l, dat μ k (e a) = some (o a)) : dat μ (k + 1) (.rf n) = some (.dict (l.map fun a => (kD (ky a), o a))) := by
  show (match μ[n]? with | some (.lst ws) => (allO (dat μ k) ws).map PyData.list | some (.dct kws) => (allK (dat μ k) kws).map PyData.dict | _ => none) = _
  rw [h]
  simp only [allK_map f, Option.map_some]
theorem dat_ints {μ : Sto} {n k : Nat} {ns : List Int} (h : μ[n]? = some (.lst (ns.map iW))) : dat μ (k + 1) (.rf n) = some (.list (ns.map .int)) := dat_lst h fun i _ => dat_da _ _ _
theorem dat_ins {μ : Sto} {n k c : Nat} {ws : List W} (h : μ[n]? = some (.ins c ws)) : dat μ k (.rf n) = none := by
  cases k with
  | zero => rfl
  | succ k =>
    show (match μ[n]? with | some (.lst ws) => (allO (dat μ k) ws).map PyData.list | some (.dct kws) => (allK (dat μ k) kws).map PyData.dict | _ => none) = _
    rw [h]
theorem fm_filter {α β : Type} (p : α → Bool) (f : α → β) : ∀ l : List α, (l.filterMap fun a => if p a = true then none else some (f a)) = (l.filter fun a => !p a).map f
  | [] => rfl
  | a :: l => by
    rw [List.filterMap_cons, List.filter_cons]
    cases h : p a <;> simp [fm_filter p f l]
theorem asInts_map : ∀ ns : List Int, asInts (ns.map .int) = some ns
  | [] => rfl
  | n :: ns => by
    show (asInts (ns.map .int)).map (n :: ·) = _
    rw [asInts_map ns]; rfl
theorem dInts_map (ns : List Int) : dInts (.da (.list (ns.map PyData.int))) = some ns := asInts_map ns
end Md

/-! Md13: small steps of mirrors of plain data. -/
namespace Md
open PySem PySem.Spec PyProof.Rows L2 Pd
theorem run_rt {np nl : Nat} {m : M Out} {ds : List D} {d : D} (h1 : ds.length = np) (h2 : m (startF nl ds) = some (.rt d)) : runD np nl m ds = some d := by
  unfold runD
  rw [if_pos h1, h2]
  rfl
theorem atI_in {α : Type} {xs : List α} {i : Int} (h0 : 0 ≤ i) (h1 : i < xs.length) : atI xs i = xs[i.toNat]? := by
  unfold atI ixN
  rw [if_pos h0, if_pos h1]
  rfl
theorem dEq_bool (a b : Bool) : dEq (.bool a) (.bool b) = some (.bool (a == b)) := by
  unfold dEq
  rw [if_pos (show (SeqAt.shaped (.bool a) && SeqAt.shaped (.bool b)) = true from rfl)]
  simp only [PyData.eqv]
theorem okR_nat {n : Nat} (h : n ≤ 1000) : okR (n : Int) = true := by
  have h1 : -(2 ^ 62 : Int) ≤ 0 := by decide
  have h2 : (1000 : Int) < 2 ^ 62 := by decide
  exact okR_iff.mpr ⟨Int.le_trans h1 (Int.natCast_nonneg _), Int.lt_of_le_of_lt (by omega) h2⟩
theorem rng1_of {m : M D} {ρ : Fr} {n : Nat} (hl : n ≤ 1000) (h : m ρ = some (.int (n : Int))) : mRng1 m ρ = some (rngD 0 (n : Int)) := by
  unfold mRng1
  rw [h, Option.bind_some]
  exact if_pos (okR_nat hl)
theorem mAsg_eq {m : M D} {g : D → Fr → Option Fr} {ρ ρ' : Fr} {d : D} (h1 : m ρ = some d) (h2 : g d ρ = some ρ') : mAsg m g ρ = some (.nx ρ') := by
  unfold mAsg
  rw [h1, Option.bind_some, h2]
  rfl
theorem m2_eq {f : D → D → Option D} {a b : M D} {ρ : Fr} {x y d : D} (h1 : a ρ = some x) (h2 : b ρ = some y) (h3 : f x y = some d) : m2 f a b ρ = some d := by
  unfold m2
  rw [h1, Option.bind_some, h2, Option.bind_some, h3]
theorem m1_eq {f : D → Option D} {a : M D} {ρ : Fr} {x d : D} (h1 : a ρ = some x) (h3 : f x = some d) : m1 f a ρ = some d := by
  unfold m1
  rw [h1, Option.bind_some, h3]
theorem mA_eq {f : List D → Option D} {a : M (List D)} {ρ : Fr} {xs : List D} {d : D} (h1 : a ρ = some xs) (h3 : f xs = some d) : mA f a ρ = some d := by
  unfold mA
  rw [h1, Option.bind_some, h3]
theorem mCons_eq {a : M D} {r : M (List D)} {ρ : Fr} {x : D} {xs : List D} (h1 : a ρ = some x) (h2 : r ρ = some xs) : mCons a r ρ = some (x :: xs) := by
  unfold mCons
  rw [h1, Option.bind_some, h2, Option.bind_some]
theorem mL_eq {a : M (List D)} {ρ : Fr} {xs : List D} (h1 : a ρ = some xs) : mL a ρ = some (.list xs) := by
  unfold mL
  rw [h1]
  rfl
theorem mRet_eq {a : M D} {ρ : Fr} {d : D} (h1 : a ρ = some d) : mRet a ρ = some (.rt d) := by
  unfold mRet
  rw [h1]
  rfl
theorem mOwn_eq {a : M (List D)} {i : Nat} {ρ : Fr} {ds : List D} (h1 : a ρ = some ds) (hi : i < ρ.length) : mOwn a i ρ = some (.nx (ρ.set i (.ow ds))) := by
  unfold mOwn
  rw [h1, Option.bind_some, if_pos hi]
theorem mIfS_eq {c : M Bool} {a b : M Out} {ρ : Fr} {x : Bool} {o : Out} (h1 : c ρ = some x) (h2 : (if x = true then a ρ else b ρ) = some o) : mIfS c a b ρ = some o := by
  unfold mIfS
  rw [h1, Option.bind_some, h2]
theorem mSeq_nx {a b : M Out} {ρ ρ1 : Fr} (h : a ρ = some (.nx ρ1)) : mSeq a b ρ = b ρ1 := by
  unfold mSeq
  rw [h]
  rfl
theorem mSeq_rt {a b : M Out} {ρ : Fr} {d : D} (h : a ρ = some (.rt d)) : mSeq a b ρ = some (.rt d) := by
  unfold mSeq
  rw [h]
  rfl
theorem mNT {m : M D} {ρ : Fr} (h : m ρ = some (.bool true)) : mNot (mTru m) ρ = some false := by
  unfold mNot mTru
  rw [h]
  rfl
theorem mNF {m : M D} {ρ : Fr} (h : m ρ = some (.bool false)) : mNot (mTru m) ρ = some true := by
  unfold mNot mTru
  rw [h]
  rfl
theorem mOr_f {a b : M Bool} {ρ : Fr} (h1 : a ρ = some false) (h2 : b ρ = some false) : mOr a b ρ = some false := by
  unfold mOr
  rw [h1, Option.bind_some, if_neg Bool.false_ne_true, h2]
theorem mIfS_f {c : M Bool} {a : M Out} {ρ : Fr} (h : c ρ = some false) : mIfS c a mNext ρ = some (.nx ρ) := by
  unfold mIfS
  rw [h, Option.bind_some, if_neg Bool.false_ne_true]
  rfl
theorem mIfS_t {c : M Bool} {a b : M Out} {ρ : Fr} {o : Out} (h : c ρ = some true) (h2 : a ρ = some o) : mIfS c a b ρ = some o := by
  unfold mIfS
  rw [h, Option.bind_some, if_pos rfl, h2]
theorem mB_eq {m : M D} {ρ : Fr} {b : Bool} (h : m ρ = some (.bool b)) : mB m ρ = some b := by
  unfold mB
  rw [h]
  rfl
theorem mAnd_eq {a b : M Bool} {ρ : Fr} {p q : Bool} (h1 : a ρ = some p) (h2 : b ρ = some q) : mAnd a b ρ = some (p && q) := by
  unfold mAnd
  rw [h1, Option.bind_some]
  cases p
  · rfl
  · simpa using h2
theorem mAndV_eq {a b : M D} {ρ : Fr} {p q : Bool} (h1 : a ρ = some (.bool p)) (h2 : b ρ = some (.bool q)) : mAndV a b ρ = some (.bool (p && q)) := by
  unfold mAndV
  rw [h1, Option.bind_some]
  cases p
  · rfl
  · simpa using h2
theorem small_of {i : Int} (h0 : 0 ≤ i) (h1 : i ≤ 1000) : isSmall i = true := by
  have a : -(2 ^ 64 : Int) < 0 := by decide
  have b : (1000 : Int) < 2 ^ 64 := by decide
  unfold isSmall
  rw [decide_eq_true (Int.lt_of_lt_of_le a h0), decide_eq_true (Int.lt_of_le_of_lt h1 b)]
  rfl
theorem sIx_pos {n d : Nat} {a : Int} (h0 : 0 ≤ a) : HT.sIx n d (some a) = min a.toNat n := by
  show (if a < 0 then (a + n).toNat else min a.toNat n) = _
  rw [if_neg (by omega)]
def jD (j : Nat) : D := .int (0 + (j : Int))
theorem rng_all (n : Nat) : rngD 0 (n : Int) = (List.range n).map jD := by
  unfold rngD
  rw [Int.sub_zero, Int.toNat_natCast]
  rfl
abbrev Ltr : Str := Str.ofString "abcdefghijklmnopqrstuvwxyz"
abbrev one (c : Nat) : Str := ⟨#[c]⟩
theorem ltr_list : Ltr.cps.toList = [97, 98, 99, 100, 101, 102, 103, 104, 105, 106, 107, 108, 109, 110, 111, 112, 113, 114, 115, 116, 117, 118, 119, 120, 121, 122] := by decide +kernel
theorem letter (i : Int) (h0 : 0 ≤ i) (h1 : i < 26) : dIx (.str Ltr) (.int i) = some (.str ⟨#[97 + i.toNat]⟩) := by
  have hl : Ltr.length ≤ sizeLine := by decide +kernel
  have e : atI Ltr.cps.toList i = some (97 + i.toNat) := by
    rw [ltr_list, atI_in h0 (by simpa using h1)]
    have hn : i.toNat < 26 := by omega
    generalize i.toNat = j at hn ⊢
    have key : ∀ j : Fin 26, ([97, 98, 99, 100, 101, 102, 103, 104, 105, 106, 107, 108, 109, 110, 111, 112, 113, 114, 115, 116, 117, 118, 119, 120, 121, 122] : List Nat)[j.1]? = some (97 + j.1) := by decide
    exact key ⟨j, hn⟩
  simp only [dIx, if_pos hl, e, Option.map_some]
theorem glue_one : ∀ (cs : List Nat) (a : Array Nat), ((cs.map one).foldl (fun acc p => acc ++ (Str.ofString "").cps ++ p.cps) a).toList = a.toList ++ cs
  | [], a => by simp
  | c :: cs, a => by
    have e0 : (Str.ofString "").cps = #[] := by decide +kernel
    rw [List.map_cons, List.foldl_cons, glue_one cs]
    rw [e0]
    simp
theorem join_one (cs : List Nat) : (Txt.join (Str.ofString "") (cs.map one)).cps.toList = cs := by
  unfold Txt.join Builtin.Str.glued
  cases cs with
  | nil => rfl
  | cons c cs =>
    exact (glue_one cs #[c]).trans rfl
theorem asStrs_of : ∀ ys : List Str, asStrs (ys.map PyData.str) = some ys
  | [] => rfl
  | y :: ys => by
    show (asStrs (ys.map PyData.str)).map (y :: ·) = _
    rw [asStrs_of ys]; rfl
theorem sum_one (cs : List Nat) : ((cs.map one).map (·.length)).sum = cs.length := by
  induction cs with
  | nil => rfl
  | cons c cs ih =>
    rw [List.map_cons, List.map_cons, List.sum_cons, ih]
    show 1 + cs.length = cs.length + 1
    omega
theorem str_small {i : Int} (h0 : 0 ≤ i) (h1 : i < 1000) : ∃ x, dStr [.int i] = some (.str x) := by
  refine ⟨_, if_pos ?_⟩
  by_cases h : i.natAbs = 0
  · rw [h]; decide
  · rw [Nat.log2_lt h]
    have : (1000 : Nat) < 2 ^ 1920 := by
      have : (2 : Nat) ^ 10 ≤ 2 ^ 1920 := Nat.pow_le_pow_right (by decide) (by decide)
      omega
    omega

theorem forD_inv2 {α : Type} {g : D → Fr → Option Fr} {b : M Out} {e : α → D} (I : List α → Fr → Prop) : ∀ {l done : List α} {ρ : Fr}, I done ρ →
    (∀ d a ρ, I d ρ → (∃ r, done ++ l = d ++ a :: r) → ∃ ρ1 ρ2, g (e a) ρ = some ρ1 ∧ b ρ1 = some (.nx ρ2) ∧ I (d ++ [a]) ρ2) →
    ∃ ρ', forD g b (l.map e) ρ = some (.nx ρ') ∧ I (done ++ l) ρ'
  | [], done, ρ, h, _ => ⟨ρ, rfl, by rw [List.append_nil]; exact h⟩
  | a :: l, done, ρ, h, step => by
    obtain ⟨ρ1, ρ2, e1, e2, h2⟩ := step done a ρ h ⟨l, rfl⟩
    obtain ⟨ρ', e4, h4⟩ := forD_inv2 I (l := l) h2 (fun d x ρ hi ⟨r, hr⟩ => step d x ρ hi ⟨r, by rw [← hr, List.append_assoc]; rfl⟩)
    refine ⟨ρ', ?_, by rw [List.append_assoc] at h4; exact h4⟩
    rw [List.map_cons]
    unfold forD
    rw [e1, Option.bind_some, e2, Option.bind_some]
    exact e4
theorem cut_take (xs : List D) {k : Nat} (h : k ≤ xs.length) : Pd.cutD xs none (some (k : Int)) = xs.take k := by
  unfold Pd.cutD
  have e : HT.sIx xs.length xs.length (some (k : Int)) = k := by
    rw [sIx_pos (by omega)]; omega
  have e0 : HT.sIx xs.length 0 none = 0 := rfl
  rw [e, e0, List.drop_zero, Nat.sub_zero]
theorem cut_drop (xs : List D) {k : Nat} (h : k ≤ xs.length) : Pd.cutD xs (some (k : Int)) none = xs.drop k := by
  unfold Pd.cutD
  have e : HT.sIx xs.length 0 (some (k : Int)) = k := by
    rw [sIx_pos (by omega)]; omega
  have e0 : HT.sIx xs.length xs.length none = xs.length := rfl
  rw [e, e0, List.take_of_length_le (by simp)]
theorem okR_one : okR 1 = true := okR_iff.mpr ⟨by decide, by decide⟩
theorem rng2_of {a b : M D} {ρ : Fr} {n : Nat} (hl : n ≤ 1000) (h1 : a ρ = some (.int 1)) (h : b ρ = some (.int (n : Int))) : mRng2 a b ρ = some ((List.range ((n : Int) - 1).toNat).map fun (i : Nat) => PyData.int (1 + (i : Int))) := by
  unfold mRng2
  rw [h1, Option.bind_some, h, Option.bind_some]
  show (if _ then _ else none) = _
  rw [if_pos (by rw [okR_one, okR_nat hl]; rfl)]
  rfl
theorem mFLst_nil (ρ : Fr) : mFLst mNil ρ = some [] := by
  show (if ([] : List D).length ≤ sizeLine then some [] else none) = some ([] : List D)
  exact if_pos (Nat.zero_le _)
theorem dFdiv_pos {a b : Int} (h : 0 < b ∧ b < 1073741824) : dFdiv (.int a) (.int b) = some (.int (a / b)) := by
  show (if 0 < b ∧ b < 1073741824 then some (PyData.int (a / b)) else none) = _
  exact if_pos h
theorem dMod_pos {a b : Int} (h : 0 < b) : dMod (.int a) (.int b) = some (.int (a % b)) := by
  show (if 0 < b then some (PyData.int (a % b)) else none) = _
  exact if_pos h
theorem dMul_l {a b : Int} (h : isSmall a = true) : dMul (.int a) (.int b) = some (.int (a * b)) := by
  show (if (isSmall a || isSmall b) = true then some (PyData.int (a * b)) else none) = _
  exact if_pos (by rw [h]; rfl)
theorem dMul_r {a b : Int} (h : isSmall b = true) : dMul (.int a) (.int b) = some (.int (a * b)) := by
  show (if (isSmall a || isSmall b) = true then some (PyData.int (a * b)) else none) = _
  exact if_pos (by rw [h, Bool.or_true])
end Md

/-! Md14: joined texts, repeated texts, dict displays, assignments side by side. -/
namespace Pd
open PySem PySem.Spec PyProof.Rows L2
section
variable {ι : Type} {T : List (Addr × Str)} {K : PySem.W.Frag} {X : ι → Cx}
/-! ### joined texts -/
def dFmt : D → Option D
  | .str y => if y.length ≤ sizeLine then some (.str y) else none
  | .int i => if i.natAbs.log2 < 1920 then some (.str (Str.ofString (toString i))) else none
  | _ => none
theorem xd_fmt {e : Expr} {a : M D} {pos : Pos} (ha : XD X T K e a) : XD X T K (.FormattedValue e (-1) none pos) (m1 dFmt a) := by
  obtain ⟨t, p, l⟩ := ha
  refine ⟨tFmt t, fun i0 => pe_fmt (p i0), ?_⟩
  intro F0 H0 σ F H ρ d S h Q q
  unfold m1 at h
  obtain ⟨x, e1, h⟩ := Option.bind_eq_some_iff.mp h
  refine l F0 H0 σ F H ρ x S e1 _ fun v F1 H1 g1 r1 => ?_
  cases r1 <;> simp only [dFmt] at h <;> try (cases h; done)
  · split at h
    · rename_i hz
      cases h
      exact .inr ⟨_, rfl, hz, q _ F1 H1 g1 (.str _)⟩
    · cases h
  · split at h
    · rename_i hz
      cases h
      exact .inl ⟨_, rfl, hz, q _ F1 H1 g1 (.str _)⟩
    · cases h
def mJs : List (M D) → Str → M Str
  | [], acc => fun _ => some acc
  | m :: ms, acc => fun ρ => (m ρ).bind fun d => match d with
    | .str y => if (acc ++ y).length ≤ sizeLine then mJs ms (acc ++ y) ρ else none
    | _ => none
def mFstr (ms : List (M D)) : M D := fun ρ => (mJs ms Str.empty ρ).map .str
inductive JL (T : List (Addr × Str)) (K : PySem.W.Frag) : List TE → List (M D) → Prop
  | nil : JL T K [] []
  | cons {t : TE} {m : M D} {ts : List TE} {ms : List (M D)} : EL T K t m → JL T K ts ms → JL T K (t :: ts) (m :: ms)
def XJ {ι : Type} (X : ι → Cx) (T : List (Addr × Str)) (K : PySem.W.Frag) (es : List Expr) (ms : List (M D)) : Prop := ∃ ts, (∀ i0, PJ (X i0) es ts) ∧ JL T K ts ms
theorem xj_nil : XJ X T K [] [] := ⟨[], fun _ => .nil, .nil⟩
theorem xj_cons {e : Expr} {es : List Expr} {a : M D} {ms : List (M D)} (ha : XD X T K e a) (hr : XJ X T K es ms) : XJ X T K (e :: es) (a :: ms) := by
  obtain ⟨t, p, l⟩ := ha
  obtain ⟨ts, p2, l2⟩ := hr
  exact ⟨t :: ts, fun i0 => .cons (p i0) (p2 i0), .cons l l2⟩
theorem js_run {ts : List TE} {ms : List (M D)} (hl : JL T K ts ms) : ∀ {F0 H0 : Hp} {σ : St} {F H : Hp} {ρ : Fr} {acc out : Str} {Q : Str → Hp → Prop}, State T K F0 H0 σ F H ρ → mJs ms acc ρ = some out → (∀ F1 H1, Grow T F H F1 H1 → Q out H1) → tJs ts acc σ H Q := by
  induction hl with
  | nil =>
    intro F0 H0 σ F H ρ acc out Q S h q
    cases h
    exact q F H (Grow.refl S.s)
  | @cons t m ts ms l _ ih =>
    intro F0 H0 σ F H ρ acc out Q S h q
    obtain ⟨d, e1, h⟩ := Option.bind_eq_some_iff.mp h
    refine l F0 H0 σ F H ρ d S e1 _ fun v F1 H1 g1 r1 => ?_
    cases r1 <;> simp only at h <;> try (cases h; done)
    rename_i y
    split at h
    · rename_i hz
      exact ⟨y, rfl, hz, ih (S.grow g1) h fun F2 H2 g2 => q F2 H2 (g1.trans g2)⟩
    · cases h
theorem xd_fstr {v1 v2 : Expr} {rest : List Expr} {ms : List (M D)} {pos : Pos} (h : XJ X T K (v1 :: v2 :: rest) ms) : XD X T K (.JoinedStr (v1 :: v2 :: rest) pos) (mFstr ms) := by
  obtain ⟨ts, p, l⟩ := h
  refine ⟨_, fun i0 => pe_joined (p i0), ?_⟩
  intro F0 H0 σ F H ρ d S h Q q
  obtain ⟨out, e1, h⟩ := Option.map_eq_some_iff.mp h
  subst h
  exact js_run l S e1 fun F1 H1 g1 => q _ F1 H1 g1 (.str out)
/-! ### a text times a whole number -/
def repS (x : Str) (n : Int) : Str := ⟨(List.replicate n.toNat x.cps).foldl (fun a b => a ++ b) #[]⟩
def dMulS : D → D → Option D
  | .str x, .int n => if 0 ≤ n ∧ n ≤ 1000 ∧ 0 < x.length ∧ x.length ≤ 1000 then some (.str (repS x n)) else none
  | _, _ => none
theorem rep_size : ∀ (m : Nat) (a acc : Array Nat), ((List.replicate m a).foldl (fun a b => a ++ b) acc).size = acc.size + m * a.size
  | 0, a, acc => by simp
  | m + 1, a, acc => by
    rw [List.replicate_succ, List.foldl_cons, rep_size m a, Array.size_append, Nat.add_mul]
    omega
theorem op_mulS {Y : Cx} : OpR Y (binaryOp .Mult) (fun x y H Q => ∃ (s : Str) (n : Int), x = .str s ∧ y = .int n ∧ (0 ≤ n ∧ n ≤ 1000 ∧ 0 < s.length ∧ s.length ≤ 1000) ∧ Q (.str (repS s n)) H) := by
  intro pins s σ H x y v u Q I r1 r2 h
  obtain ⟨z, n, rfl, rfl, ⟨h0, h1, h2, h3⟩, q⟩ := h
  obtain ⟨t, rfl⟩ := r1
  obtain ⟨t', rfl⟩ := r2
  have big : z.length * n.toNat ≤ 1000 * 1000 := Nat.mul_le_mul h3 (by omega)
  refine P.mul_str ?_ (fun _ _ => ?_) (fun _ _ => ?_) ?_
  · rw [decide_eq_false (by omega), decide_eq_false (by omega)]; rfl
  · have : (1000 : Int) ≤ (2 ^ 63 - 1) / n := (Int.le_ediv_iff_mul_le (by omega)).mpr (by omega)
    omega
  · unfold Builtin.Str.tooLong
    have : 1000 * 1000 ≤ sizeLine := by decide
    exact decide_eq_false (by omega)
  · split
    · rename_i hn
      have e : n.toNat = 0 := by omega
      simp only [Made.post]
      have eq : repS z n = Str.empty := by unfold repS; rw [e]; rfl
      rw [eq] at q
      exact ⟨Nat.zero_le _, .str Str.empty, H, I.tok _, ⟨_, rfl⟩, q⟩
    · rename_i hn
      split
      · rename_i h1'
        simp only [Made.post]
        have e1 : n = 1 := by
          rw [Bool.or_eq_true] at h1'
          rcases h1' with h | h
          · exact beq_iff_eq.mp h
          · have := beq_iff_eq.mp h
            omega
        have eq : repS z n = z := by
          subst e1
          unfold repS
          show (⟨#[] ++ z.cps⟩ : Str) = z
          rw [Array.empty_append]
        rw [eq] at q
        exact ⟨.str z, H, I, ⟨_, rfl⟩, q⟩
      · simp only [Made.post]
        refine ⟨?_, .str (repS z n), H, I.tok _, ⟨_, rfl⟩, q⟩
        have e := rep_size n.toNat z.cps #[]
        have hz : (repS z n).length = z.length * n.toNat := by
          show ((List.replicate n.toNat z.cps).foldl (fun a b => a ++ b) #[]).size = _
          rw [e, Nat.mul_comm]
          simp [Str.length]
        have : 1000 * 1000 ≤ sizeLine := by decide
        show (repS z n).length ≤ sizeLine
        omega
theorem xd_mulS {a b : Expr} {ma mb : M D} {pos : Pos} (ha : XD X T K a ma) (hb : XD X T K b mb) : XD X T K (.BinOp a .Mult b pos) (m2 dMulS ma mb) := by
  refine xd_op (fun _ => op_mulS) ?_ ha hb
  intro F H x y dx dy d s rx ry h Q q
  cases rx <;> cases ry <;> simp only [dMulS] at h <;> try (cases h; done)
  split at h
  · rename_i hz
    cases h
    exact ⟨_, _, rfl, rfl, hz, q _ F H (Grow.refl s) (.str _)⟩
  · cases h
end
end Pd

namespace Md
open PySem PySem.Spec PyProof.Rows L2 Pd
section
variable {ι : Type} {T : List (Addr × Str)} {K : PySem.W.Frag} {X : ι → Cx} {cl : Cf} {Wx : WN}
theorem yd_mulS {a b : Expr} {ma mb : YM W} {pos : Pos} (ha : YD X T K cl a ma) (hb : YD X T K cl b mb) : YD X T K cl (.BinOp a .Mult b pos) (y2 dMulS ma mb) := by
  refine yd_op (fun _ => op_mulS) ?_ ha hb
  intro F H x y dx dy d s rx ry h Q q
  cases rx <;> cases ry <;> simp only [dMulS] at h <;> try (cases h; done)
  split at h
  · rename_i hz
    cases h
    exact ⟨_, _, rfl, rfl, hz, q _ F H (Grow.refl s) (.str _)⟩
  · cases h
/-! ### dict displays -/
def ypNil : YM (List (Key × W)) := fun _ μ => some ([], μ)
def ypCons (k v : YM W) (r : YM (List (Key × W))) : YM (List (Key × W)) := fun ρ μ => (k ρ μ).bind fun p => (v ρ p.2).bind fun q => (r ρ q.2).bind fun z => match p.1 with
  | .da d => (keyOf d).map fun k => ((k, q.1) :: z.1, z.2)
  | _ => none
def mergeW (acc : List (Key × W)) (kws : List (Key × W)) : List (Key × W) := kws.foldl (fun a p => gPut a p.1 p.2) acc
def yDisp (m : YM (List (Key × W))) : YM W := fun ρ μ => (m ρ (μ ++ [.dct []])).bind fun q => match q.2[μ.length]? with
  | some (.dct []) => if q.1.length ≤ 15 then some (.rf μ.length, q.2.set μ.length (.dct (mergeW [] q.1))) else none
  | _ => none
def YPs (X : ι → Cx) (T : List (Addr × Str)) (K : PySem.W.Frag) (cl : Cf) (pos : Pos) (ks : List (Option Expr)) (vs : List Expr) (m : YM (List (Key × W))) : Prop := ∃ trs, (∀ i, PPs (X i) pos ks vs trs) ∧
  ∀ (F0 H0 : Hp) (κ0 : List Addr) (σ : St) (F H : Hp) (κ : List Addr) (ρ : YF) (μ : Sto) (kws : List (Key × W)) (μ' : Sto), MS T K cl F0 H0 κ0 σ F H κ ρ μ → m ρ μ = some (kws, μ') →
  ∀ Q : List (V × V) → Hp → Prop, (∀ kvs F' H' κ', Mov T F H κ F' H' κ' → StOk K cl F' H' κ' μ' → RWp Key K F' κ' kvs kws → Q (kvs.map fun kv => (kV kv.1, kv.2)) H') → tPairs trs σ H Q
theorem yps_nil {pos : Pos} : YPs X T K cl pos [] [] ypNil := by
  refine ⟨[], fun _ => pps_nil, ?_⟩
  intro F0 H0 κ0 σ F H κ ρ μ kws μ' S h Q q
  cases h
  exact q [] F H κ (Mov.refl S.s) S.st .nil
theorem yps_cons {pos : Pos} {k v : Expr} {ks : List (Option Expr)} {vs : List Expr} {mk mv : YM W} {m : YM (List (Key × W))} (hk : YD X T K cl k mk) (hv : YD X T K cl v mv) (hr : YPs X T K cl pos ks vs m) : YPs X T K cl pos (some k :: ks) (v :: vs) (ypCons mk mv m) := by
  obtain ⟨tk, p1, l1⟩ := hk
  obtain ⟨tv, p2, l2⟩ := hv
  obtain ⟨trs, p3, l3⟩ := hr
  refine ⟨(tk, tv) :: trs, fun i0 => pps_cons (p1 i0) (p2 i0) (p3 i0), ?_⟩
  intro F0 H0 κ0 σ F H κ ρ μ kws μ' S h Q q
  unfold ypCons at h
  obtain ⟨⟨w1, μ1⟩, e1, h1⟩ := Option.bind_eq_some_iff.mp h
  obtain ⟨⟨w2, μ2⟩, e2, h2⟩ := Option.bind_eq_some_iff.mp h1
  obtain ⟨⟨r, μ3⟩, e3, h3⟩ := Option.bind_eq_some_iff.mp h2
  clear h h1 h2
  refine l1 F0 H0 κ0 σ F H κ ρ μ w1 μ1 S e1 _ fun x F1 H1 κ1 m1 s1 r1 => ?_
  refine l2 F0 H0 κ0 σ F1 H1 κ1 ρ μ1 w2 μ2 (S.move m1 s1) e2 _ fun y F2 H2 κ2 m2 s2 r2 => ?_
  refine l3 F0 H0 κ0 σ F2 H2 κ2 ρ μ2 r μ3 ((S.move m1 s1).move m2 s2) e3 _ fun kvs F3 H3 κ3 m3 s3 r3 => ?_
  simp only at h3
  cases r1 with
  | da rd =>
    simp only at h3
    obtain ⟨kk, e4, h4⟩ := Option.map_eq_some_iff.mp h3
    cases h4
    have ev := rw_key (.da rd : RW K F1 κ1 x (.da _)) e4
    subst ev
    exact q ((kk, y) :: kvs) F3 H3 κ3 ((m1.trans m2).trans m3) s3 (.cons ⟨rfl, m3.rw r2⟩ r3)
  | rf e => cases h3
theorem merge_rw {F : Hp} {κ : List Addr} : ∀ {vs acc : List (Key × V)} {ws acw : List (Key × W)}, RWp Key K F κ acc acw → RWp Key K F κ vs ws → RWp Key K F κ (mergeK acc vs) (mergeW acw ws)
  | [], _, [], _, a, _ => a
  | p :: vs, acc, q :: ws, acw, a, .cons h r => by
    show RWp Key K F κ (mergeK (putK acc p.1 p.2) vs) (mergeW (gPut acw q.1 q.2) ws)
    refine merge_rw ?_ r
    rw [h.1]
    exact g_put a h.2
theorem yd_disp {keys : List (Option Expr)} {values : List Expr} {m : YM (List (Key × W))} {pos : Pos} (h : YPs X T K cl pos keys values m) (ha : keys.all (·.isSome) = true := by rfl) (hl : keys.length = values.length := by rfl) (h0 : keys ≠ [] := by intro z; cases z) (h15 : keys.length ≤ 15 := by decide) : YD X T K cl (.Dict keys values pos) (yDisp m) := by
  obtain ⟨trs, p1, l⟩ := h
  refine ⟨tDisp trs, fun i0 => pe_disp (p1 i0) ha hl h0 h15, ?_⟩
  intro F0 H0 κ0 σ F H κ ρ μ w μ' S h Q q p hp
  unfold yDisp at h
  obtain ⟨⟨kws, μ1⟩, e1, h1⟩ := Option.bind_eq_some_iff.mp h
  clear h
  obtain ⟨m0, s0, r0⟩ := new_cell (c := .dct []) S.st S.s hp ⟨[], upd_same, S.s.same.free hp, .nil⟩
  refine l F0 H0 κ0 σ F _ (κ ++ [p]) ρ _ kws μ1 (S.move m0 s0) e1 _ fun kvs F1 H1 κ1 m1 s1 r1 => ?_
  simp only at h1
  split at h1
  · rename_i e2
    split at h1
    · rename_i hz
      cases h1
      have ek : κ1[μ.length]? = some p := m1.at (key_last (S := S.st))
      obtain ⟨vs0, a1, a2, a3⟩ := s1.ok _ _ _ e2 ek
      cases a3
      obtain ⟨m2, s2⟩ := dct_put s1 m1.s ek a1 a2 (merge_rw (K := K) .nil r1)
      refine ⟨a1, kvs, rfl, by rw [pr_len r1]; exact hz, ?_⟩
      exact q _ F1 _ κ1 ((m0.trans m1).trans m2) s2 (.rf ek)
    · cases h1
  · cases h1
/-! ### side by side -/
def yPar2 (i j : Nat) (m : YM (List W)) : YM YO := fun ρ μ => (m ρ μ).bind fun p => match p.1 with
  | [u, v] => if i < ρ.length ∧ j < ρ.length then some (.nx ((ρ.set i (some u)).set j (some v)), p.2) else none
  | _ => none
def yPar3 (i j l : Nat) (m : YM (List W)) : YM YO := fun ρ μ => (m ρ μ).bind fun p => match p.1 with
  | [u, v, w] => if i < ρ.length ∧ j < ρ.length ∧ l < ρ.length then some (.nx (((ρ.set i (some u)).set j (some v)).set l (some w)), p.2) else none
  | _ => none
theorem ys_par2 {x y : Str} {a b : Expr} {px py pt pos : Pos} {kt k2 : Nat} {pt2 : Pos} {m : YM (List W)} (hN : ∀ i0, (X i0).N.Nodup) (i j : Nat) (ha : YA X T K cl [a, b] m)
    (hi : ∀ i0, (X i0).N[i]? = some x := by intro _; rfl) (hj : ∀ i0, (X i0).N[j]? = some y := by intro _; rfl) (ne : i ≠ j := by decide) (hx : ∀ i0, (X i0).env.scope.names.lookup x = some .local := by intro _; rfl) (hy : ∀ i0, (X i0).env.scope.names.lookup y = some .local := by intro _; rfl)
    (hw : ∀ i0, swappedStores [.Tuple [.Name x px, .Name y py] kt pt] (.Tuple [a, b] k2 pt2) (X i0).env = pure (some [x, y]) := by intro _; rfl) (hs : ∀ i0, swapsWithSole [.Tuple [.Name x px, .Name y py] kt pt] (.Tuple [a, b] k2 pt2) pos.line (X i0).env = pure false := by intro _; rfl) (hc : ∀ i0, (X i0).calm = true := by intro _; rfl) :
    YS X T K cl Wx (.Assign [.Tuple [.Name x px, .Name y py] kt pt] (.Tuple [a, b] k2 pt2) pos) (yPar2 i j m) := by
  obtain ⟨t, p, l⟩ := ha
  refine ⟨_, fun i0 => ps_par (hc i0) (hN i0) (hi i0) (hj i0) ne (hx i0) (hy i0) (p i0) (hw i0) (hs i0), ?_⟩
  intro F0 H0 κ0 σ F H κ ρ μ o μ' De S h Q
  unfold yPar2 at h
  obtain ⟨⟨ws, μ1⟩, e1, h1⟩ := Option.bind_eq_some_iff.mp h
  refine l F0 H0 κ0 σ F H κ ρ μ ws μ1 S e1 _ fun vs F1 H1 κ1 m1 s1 r1 => ?_
  simp only at h1
  split at h1
  · split at h1
    · rename_i hz
      cases h1
      cases r1 with
      | cons ra rr =>
        cases rr with
        | cons rb rr =>
          cases rr
          refine ⟨_, _, rfl, Q _ F1 H1 κ1 (((S.move m1 s1).set ra hz.1).set rb (by rw [List.length_set]; exact hz.2)) m1⟩
    · cases h1
  · cases h1
theorem ys_par3 {x y z : Str} {a b c : Expr} {px py pz pt pos : Pos} {kt k2 : Nat} {pt2 : Pos} {m : YM (List W)} (hN : ∀ i0, (X i0).N.Nodup) (i j l : Nat) (ha : YA X T K cl [a, b, c] m)
    (hi : ∀ i0, (X i0).N[i]? = some x := by intro _; rfl) (hj : ∀ i0, (X i0).N[j]? = some y := by intro _; rfl) (hl : ∀ i0, (X i0).N[l]? = some z := by intro _; rfl) (n1 : i ≠ j := by decide) (n2 : i ≠ l := by decide) (n3 : j ≠ l := by decide) (hx : ∀ i0, (X i0).env.scope.names.lookup x = some .local := by intro _; rfl) (hy : ∀ i0, (X i0).env.scope.names.lookup y = some .local := by intro _; rfl) (hz : ∀ i0, (X i0).env.scope.names.lookup z = some .local := by intro _; rfl)
    (hw : ∀ i0, swappedStores [.Tuple [.Name x px, .Name y py, .Name z pz] kt pt] (.Tuple [a, b, c] k2 pt2) (X i0).env = pure (some [x, y, z]) := by intro _; rfl) (hs : ∀ i0, swapsWithSole [.Tuple [.Name x px, .Name y py, .Name z pz] kt pt] (.Tuple [a, b, c] k2 pt2) pos.line (X i0).env = pure false := by intro _; rfl) (hc : ∀ i0, (X i0).calm = true := by intro _; rfl) :
    YS X T K cl Wx (.Assign [.Tuple [.Name x px, .Name y py, .Name z pz] kt pt] (.Tuple [a, b, c] k2 pt2) pos) (yPar3 i j l m) := by
  obtain ⟨t, p, lw⟩ := ha
  refine ⟨_, fun i0 => ps_par3 (hc i0) (hN i0) (hi i0) (hj i0) (hl i0) n1 n2 n3 (hx i0) (hy i0) (hz i0) (p i0) (hw i0) (hs i0), ?_⟩
  intro F0 H0 κ0 σ F H κ ρ μ o μ' De S h Q
  unfold yPar3 at h
  obtain ⟨⟨ws, μ1⟩, e1, h1⟩ := Option.bind_eq_some_iff.mp h
  refine lw F0 H0 κ0 σ F H κ ρ μ ws μ1 S e1 _ fun vs F1 H1 κ1 m1 s1 r1 => ?_
  simp only at h1
  split at h1
  · split at h1
    · rename_i hz
      cases h1
      cases r1 with
      | cons ra rr =>
        cases rr with
        | cons rb rr =>
          cases rr with
          | cons rc rr =>
            cases rr
            refine ⟨_, _, _, rfl, Q _ F1 H1 κ1 ((((S.move m1 s1).set ra hz.1).set rb (by rw [List.length_set]; exact hz.2.1)).set rc (by rw [List.length_set, List.length_set]; exact hz.2.2)) m1⟩
    · cases h1
  · cases h1
end
end Md

namespace Lw
open PySem PySem.Spec PyProof.Rows L2 Pd Md
abbrev top (i : Nat) : Stmt := PySem.Challenge.pw_eventloom_k13_tale.main.body.getD i (.Pass ⟨0, 0, 0, 0⟩)
abbrev s_law_word_by : Stmt := top 8
abbrev N_law_word_by : List Str := ["_law_cell", "_law_letters", "_law_at"]
theorem sc_law_word_by : FnScope N_law_word_by ["_law_cell"] (defScope s_law_word_by) := ⟨rfl, rfl, rfl, by decide +kernel, rfl, by decide +kernel, by decide +kernel⟩
abbrev s_begun : Stmt := top 2
abbrev N_begun : List Str := ["log", "row"]
theorem sc_begun : FnScope N_begun ["log"] (defScope s_begun) := ⟨rfl, rfl, rfl, by decide +kernel, rfl, by decide +kernel, by decide +kernel⟩
abbrev s_scenes : Stmt := top 1
abbrev N_scenes : List Str := ["log", "told", "around", "row"]
theorem sc_scenes : FnScope N_scenes ["log"] (defScope s_scenes) := ⟨rfl, rfl, rfl, by decide +kernel, rfl, by decide +kernel, by decide +kernel⟩
abbrev s_inside : Stmt := top 3
abbrev N_inside : List Str := ["log", "row", "_", "innermost"]
theorem sc_inside : FnScope N_inside ["log"] (defScope s_inside) := ⟨rfl, rfl, rfl, by decide +kernel, rfl, by decide +kernel, by decide +kernel⟩
abbrev s_turns : Stmt := top 4
abbrev N_turns : List Str := ["log", "told", "number", "innermost"]
theorem sc_turns : FnScope N_turns ["log"] (defScope s_turns) := ⟨rfl, rfl, rfl, by decide +kernel, rfl, by decide +kernel, by decide +kernel⟩
abbrev s_drawn : Stmt := top 5
abbrev N_drawn : List Str := ["log", "events", "texts", "row", "depth", "_", "shown"]
theorem sc_drawn : FnScope N_drawn ["log", "events"] (defScope s_drawn) := ⟨rfl, rfl, rfl, by decide +kernel, rfl, by decide +kernel, by decide +kernel⟩
abbrev s_law_row : Stmt := top 9
abbrev N_law_row : List Str := ["_law_own", "_law_cell", "_law_around", "_law_kind", "_law_some", "_law_number", "_law_word", "_law_outer", "_law_name"]
theorem sc_law_row : FnScope N_law_row ["_law_own", "_law_cell"] (defScope s_law_row) := ⟨rfl, rfl, rfl, by decide +kernel, rfl, by decide +kernel, by decide +kernel⟩
abbrev s_law : Stmt := top 10
abbrev N_law : List Str := ["_law_script", "_law_own", "_law_log", "_law_given", "_law_events", "_law_rows", "_law_found", "_law_first", "_law_second", "_law_third", "_law_cell", "_law_row_here"]
theorem sc_law : FnScope N_law ["_law_script"] (defScope s_law) := ⟨rfl, rfl, rfl, by decide +kernel, rfl, by decide +kernel, by decide +kernel⟩
def m_law_word_by : Pd.M Out := (mSeq (mAsg (mC (.str "abcdefghijklmnopqrstuvwxyz")) (gSet 1))
  (mRet (m2 dJoin (mC (.str "")) (mL (mLc (mRng1 (m2 dAdd (mC (.int 1)) (m2 dMod (m2 dFdiv (mVar 0) (mC (.int 130))) (mC (.int 12))))) [2] (gSet 2) mYes (m2 dIx (mVar 1) (m2 dMod (m2 dAdd (mVar 0) (m2 dMul (m2 dMul (mC (.int 7)) (mVar 2)) (m2 dAdd (mC (.int 1)) (m2 dMod (m2 dFdiv (mVar 0) (mC (.int 26))) (mC (.int 5)))))) (mC (.int 26)))))))))
def G_law_word_by : List D → Option D := runD 1 3 m_law_word_by
def m_begun : Pd.M Out := (mRet (mL (mLc (mItL (mVar 0)) [1] (gSet 1) (mB (m2 dEq (m2 dIx (mVar 1) (mC (.int 0))) (mC (.str "begin")))) (m2 dIx (mVar 1) (mC (.int 1))))))
def G_begun : List D → Option D := runD 1 2 m_begun
def m_scenes : YM YO := (ySeq (yAsg (yLstC yNil) (ygSet 1))
  (ySeq (yAsg (yLstC yNil) (ygSet 2))
  (ySeq (yFor (yItP (mItL (mVar 0))) (ygSet 3)
  (ySeq (yIfS (yPT (mB (m2 dIn (m2 dIx (mVar 3) (mC (.int 0))) (mA dTup (mCons (mC (.str "begin")) (mCons (mC (.str "call")) mNil))))))
  (yDrop (yMC fApp (yVar 1) (yCons (yA dTup (yCons (yVar 3) (yCons (yLen (yVar 2)) (yCons (yIf (yST (mB (m2 dGt (mA dLen (mCons (mVar 2) mNil)) (mC (.int 0))))) (yIx (yVar 2) (yP (m1 dNeg (mC (.int 1))))) (yP (mC .none))) yNil)))) yNil)))
  yNext)
  (yIfS (yPT (mB (m2 dEq (m2 dIx (mVar 3) (mC (.int 0))) (mC (.str "begin")))))
  (yDrop (yMC fApp (yVar 2) (yCons (yP (m2 dIx (mVar 3) (mC (.int 1)))) yNil)))
  (yIfS (yPT (mB (m2 dEq (m2 dIx (mVar 3) (mC (.int 0))) (mC (.str "end")))))
  (yDrop (yMC fPop (yVar 2) yNil))
  yNext))))
  (yRet (yFrz (yVar 1))))))
def G_scenes : YFun := runY 1 4 m_scenes
def m_inside : YM YO := (yRet (yL (yLc (yItL (yCall G_scenes (yCons (yVar 0) yNil))) [1, 2, 3] (ygTup 3 (ygCons (ygSet 1) (ygCons (ygSet 2) (ygCons (ygSet 3) ygNil)))) (yPT (mB (m2 dEq (m2 dIx (mVar 1) (mC (.int 0))) (mC (.str "begin"))))) (yP (mA dTup (mCons (m2 dIx (mVar 1) (mC (.int 1))) (mCons (mVar 3) mNil)))))))
def G_inside : YFun := runY 1 4 m_inside
def m_turns : YM YO := (ySeq (yAsg (yLstC yNil) (ygSet 1))
  (ySeq (yFor (yItL (yCall G_inside (yCons (yVar 0) yNil))) (ygTup 2 (ygCons (ygSet 2) (ygCons (ygSet 3) ygNil)))
  (yIfS (yPT (mB (m2 dIsN (mVar 3) (mC .none))))
  (yDrop (yMC fApp (yVar 1) (yCons (yLstC (yCons (yVar 2) yNil)) yNil)))
  (yDrop (yMC fApp (yIx (yVar 1) (yP (m1 dNeg (mC (.int 1))))) (yCons (yVar 2) yNil)))))
  (yRet (yVar 1))))
def G_turns : YFun := runY 1 4 m_turns
def m_drawn : YM YO := (ySeq (yAsg (yLstC yNil) (ygSet 2))
  (ySeq (yFor (yItL (yCall G_scenes (yCons (yVar 0) yNil))) (ygTup 3 (ygCons (ygSet 3) (ygCons (ygSet 4) (ygCons (ygSet 5) ygNil))))
  (ySeq (yAsg (yP (mIf (mB (m2 dEq (m2 dIx (mVar 3) (mC (.int 0))) (mC (.str "begin")))) (mFstr [m1 dFmt (m2 dIx (mVar 3) (mC (.int 1))), mC (.str " "), m1 dFmt (m2 dIx (m2 dIx (mVar 1) (m2 dIx (mVar 3) (mC (.int 1)))) (mC (.int 0)))]) (mFstr [mC (.str "- "), m1 dFmt (m2 dIx (mVar 3) (mC (.int 2)))]))) (ygSet 6))
  (yDrop (yMC fApp (yVar 2) (yCons (yP (m2 dAdd (m2 dMulS (mC (.str "  ")) (mVar 4)) (mVar 6))) yNil)))))
  (yRet (yFrz (yVar 2)))))
def G_drawn : YFun := runY 2 7 m_drawn
def m_law_row : YM YO := (ySeq (yAsg (yDget (yVar 0) (yP (mC (.str "around")))) (ygSet 2))
  (ySeq (yAsg (yP (m2 dMod (mVar 1) (mC (.int 9)))) (ygSet 3))
  (ySeq (yIfS (yOr (yPT (mB (m2 dLt (mVar 3) (mC (.int 3))))) (yNot (yTru (yVar 2))))
  (ySeq (yAsg (yLen (yDget (yVar 0) (yP (mC (.str "events"))))) (ygSet 5))
  (ySeq (yAsg (yP (mA G_law_word_by (mCons (m2 dFdiv (mVar 1) (mC (.int 9))) mNil))) (ygSet 6))
  (ySeq (yDrop (yMC fApp (yDget (yVar 0) (yP (mC (.str "events")))) (yCons (yP (mA dTup (mCons (mVar 6) (mCons (mC .none) (mCons (mC (.str "wait")) (mCons (mC (.int 0)) mNil)))))) yNil)))
  (ySeq (yDrop (yMC fApp (yDget (yVar 0) (yP (mC (.str "begun")))) (yCons (yVar 5) yNil)))
  (ySeq (yAsg (yP (mC .none)) (ygSet 7))
  (ySeq (yIfS (yTru (yVar 2))
  (ySeq (yAsg (yIx (yVar 2) (yP (m1 dNeg (mC (.int 1))))) (ygSet 7))
  (yDrop (yMC fApp (yIx (yDget (yVar 0) (yP (mC (.str "turns")))) (yP (m1 dNeg (mC (.int 1))))) (yCons (yVar 5) yNil))))
  (yDrop (yMC fApp (yDget (yVar 0) (yP (mC (.str "turns")))) (yCons (yLstC (yCons (yVar 5) yNil)) yNil))))
  (ySeq (yDrop (yMC fApp (yDget (yVar 0) (yP (mC (.str "inside")))) (yCons (yP (mA dTup (mCons (mVar 5) (mCons (mVar 7) mNil)))) yNil)))
  (ySeq (yDrop (yMC fApp (yDget (yVar 0) (yP (mC (.str "drawn")))) (yCons (yS (m2 dAdd (m2 dAdd (m2 dAdd (m2 dMulS (mC (.str "  ")) (mA dLen (mCons (mVar 2) mNil))) (mA dStr (mCons (mVar 5) mNil))) (mC (.str " "))) (mVar 6))) yNil)))
  (ySeq (yDrop (yMC fApp (yVar 2) (yCons (yVar 5) yNil)))
  (yRet (yP (mA dTup (mCons (mC (.str "begin")) (mCons (mVar 5) (mCons (m2 dMod (m2 dFdiv (mVar 1) (mC (.int 9))) (mC (.int 1000))) mNil)))))))))))))))
  yNext)
  (ySeq (yIfS (yPT (mB (m2 dLt (mVar 3) (mC (.int 5)))))
  (yRet (yA dTup (yCons (yP (mC (.str "end"))) (yCons (yMC fPop (yVar 2) yNil) yNil))))
  yNext)
  (ySeq (yIfS (yPT (mB (m2 dLt (mVar 3) (mC (.int 7)))))
  (ySeq (yAsg (yP (mA G_law_word_by (mCons (m2 dFdiv (mVar 1) (mC (.int 9))) mNil))) (ygSet 8))
  (ySeq (yDrop (yMC fApp (yDget (yVar 0) (yP (mC (.str "drawn")))) (yCons (yS (m2 dAdd (m2 dAdd (m2 dMulS (mC (.str "  ")) (mA dLen (mCons (mVar 2) mNil))) (mC (.str "- "))) (mVar 8))) yNil)))
  (yRet (yA dTup (yCons (yP (mC (.str "call"))) (yCons (yIx (yVar 2) (yP (m1 dNeg (mC (.int 1))))) (yCons (yVar 8) yNil)))))))
  yNext)
  (ySeq (yAsg (yA dLst (yCons (yA dTup (yCons (yP (mC (.str "hush"))) (yCons (yIx (yVar 2) (yP (m1 dNeg (mC (.int 1))))) yNil))) (yCons (yA dTup (yCons (yP (mC (.str "make"))) (yCons (yIx (yVar 2) (yP (m1 dNeg (mC (.int 1))))) (yCons (yP (m2 dMod (m2 dFdiv (mVar 1) (mC (.int 9))) (mC (.int 50)))) yNil)))) (yCons (yA dTup (yCons (yP (mC (.str "cancel"))) (yCons (yIx (yVar 2) (yP (m1 dNeg (mC (.int 1))))) (yCons (yP (mA dTup (mCons (mC (.int 0)) (mCons (mC (.int 3)) mNil)))) yNil)))) yNil)))) (ygSet 4))
  (ySeq (yAsg (y2 dAdd (yVar 4) (yA dLst (yCons (yP (mA dTup (mCons (mC (.str "send")) (mCons (m2 dMod (m2 dFdiv (mVar 1) (mC (.int 9))) (mC (.int 50))) mNil)))) (yCons (yA dTup (yCons (yP (mC (.str "join"))) (yCons (yIx (yVar 2) (yP (m1 dNeg (mC (.int 1))))) (yCons (yP (mC (.str "begin"))) yNil)))) (yCons (yA dTup (yCons (yP (mC (.str "leave"))) (yCons (yIx (yVar 2) (yP (m1 dNeg (mC (.int 1))))) (yCons (yP (mC (.str "end"))) yNil)))) yNil))))) (ygSet 4))
  (yRet (yP (m2 dIx (mVar 4) (m2 dMod (m2 dFdiv (mVar 1) (mC (.int 9))) (mC (.int 6)))))))))))))
def G_law_row : YFun := runY 2 9 m_law_row
def m_law : YM YO := (ySeq (yAsg (yDisp (ypCons (yP (mC (.str "around"))) (yLstC yNil) (ypCons (yP (mC (.str "events"))) (yLstC yNil) (ypCons (yP (mC (.str "begun"))) (yLstC yNil) (ypCons (yP (mC (.str "inside"))) (yLstC yNil) (ypCons (yP (mC (.str "turns"))) (yLstC yNil) (ypCons (yP (mC (.str "drawn"))) (yLstC yNil) ypNil))))))) (ygSet 1))
  (ySeq (yAsg (yL (yLc (yItP (mItL (mVar 0))) [10] (ygSet 10) yYes (yCall G_law_row (yCons (yVar 1) (yCons (yVar 10) yNil))))) (ygSet 2))
  (ySeq (yAsg (yP (mA dListOf (mCons (mVar 2) mNil))) (ygSet 3))
  (ySeq (yAsg (yL (yList (yDget (yVar 1) (yP (mC (.str "events")))))) (ygSet 4))
  (ySeq (yPar3 7 8 9 (yCons (yP (mA G_begun (mCons (mVar 3) mNil))) (yCons (yCall G_inside (yCons (yVar 3) yNil)) (yCons (yCall G_turns (yCons (yVar 3) yNil)) yNil))))
  (ySeq (yAsg (yCall G_drawn (yCons (yVar 3) (yCons (yVar 4) yNil))) (ygSet 5))
  (ySeq (yFor (yItL (yLstC (yCons (yVar 7) (yCons (yVar 8) (yCons (yVar 9) (yCons (yVar 5) yNil)))))) (ygSet 6)
  (yIfS (yNot (yTru (yS (m1 (dIsi "list") (mVar 6)))))
  (yRet (yP (mC (.bool false))))
  yNext))
  (ySeq (yIfS (yOr (yPT (mB (m2 dNe (mVar 3) (mVar 2)))) (yOr (yST (mB (m2 dNe (mVar 4) (m2 dDGet (mVar 1) (mC (.str "events")))))) (yOr (yST (mB (m2 dNe (mVar 7) (m2 dDGet (mVar 1) (mC (.str "begun")))))) (yST (mB (m2 dNe (mVar 8) (m2 dDGet (mVar 1) (mC (.str "inside")))))))))
  (yRet (yP (mC (.bool false))))
  yNext)
  (yRet (yS (mAndV (m2 dEq (mVar 9) (m2 dDGet (mVar 1) (mC (.str "turns")))) (mAndV (m2 dEq (mVar 5) (m2 dDGet (mVar 1) (mC (.str "drawn")))) (mA dAll (mCons (mL (mLc (mItL (mVar 5)) [11] (gSet 11) mYes (m1 (dIsi "str") (mVar 11)))) mNil))))))))))))))
def G_law : YFun := runY 1 12 m_law
structure Ad where
  f_law_word_by : Addr
  d_law_word_by : FuncData
  f_begun : Addr
  d_begun : FuncData
  f_scenes : Addr
  d_scenes : FuncData
  f_inside : Addr
  d_inside : FuncData
  f_turns : Addr
  d_turns : FuncData
  f_drawn : Addr
  d_drawn : FuncData
  f_law_row : Addr
  d_law_row : FuncData
  f_law : Addr
  d_law : FuncData
  ex : Str → Addr
abbrev cfAd (a : Ad) (n : Nat) : Addr := match n with

  | _ => 0
abbrev cfNm (n : Nat) : List Str := match n with

  | _ => []
abbrev Ad.cf (a : Ad) : Cf := { ad := cfAd a, nm := cfNm, ex := a.ex }
structure Tx (K : PySem.W.Frag) (mg : Str → Option Value) (base : Heap) (Tb : List (Addr × Str)) (a : Ad) : Prop where
  F_law_word_by : Fun K "_law_word_by" "_law_word_by" s_law_word_by a.f_law_word_by a.d_law_word_by
  b_law_word_by : L2.Binds K a.d_law_word_by ["_law_cell"] []
  g_law_word_by : mg "_law_word_by" = some (.ref a.f_law_word_by)
  F_begun : Fun K "begun" "begun" s_begun a.f_begun a.d_begun
  b_begun : L2.Binds K a.d_begun ["log"] []
  g_begun : mg "begun" = some (.ref a.f_begun)
  F_scenes : Fun K "scenes" "scenes" s_scenes a.f_scenes a.d_scenes
  b_scenes : L2.Binds K a.d_scenes ["log"] []
  g_scenes : mg "scenes" = some (.ref a.f_scenes)
  F_inside : Fun K "inside" "inside" s_inside a.f_inside a.d_inside
  b_inside : L2.Binds K a.d_inside ["log"] []
  g_inside : mg "inside" = some (.ref a.f_inside)
  F_turns : Fun K "turns" "turns" s_turns a.f_turns a.d_turns
  b_turns : L2.Binds K a.d_turns ["log"] []
  g_turns : mg "turns" = some (.ref a.f_turns)
  F_drawn : Fun K "drawn" "drawn" s_drawn a.f_drawn a.d_drawn
  b_drawn : L2.Binds K a.d_drawn ["log", "events"] []
  g_drawn : mg "drawn" = some (.ref a.f_drawn)
  F_law_row : Fun K "_law_row" "_law_row" s_law_row a.f_law_row a.d_law_row
  b_law_row : L2.Binds K a.d_law_row ["_law_own", "_law_cell"] []
  g_law_row : mg "_law_row" = some (.ref a.f_law_row)
  F_law : Fun K "law" "law" s_law a.f_law a.d_law
  b_law : L2.Binds K a.d_law ["_law_script"] []
  g_law : mg "law" = some (.ref a.f_law)
  n_range : mg "range" = none
  n_len : mg "len" = none
  n_str : mg "str" = none
  n_list : mg "list" = none
  n_isinstance : mg "isinstance" = none
  n_all : mg "all" = none
section
variable {P : Program} {w : World} {Tb : List (Addr × Str)} {K : PySem.W.Frag} {mg : Str → Option Value} {base : Heap} {a : Ad}
theorem ok_law_word_by (T : Tx K mg base Tb a) : FnOk P w K mg base CX0 1 a.f_law_word_by a.d_law_word_by ["_law_cell"] (spD Tb K G_law_word_by) := by
  refine fnD (N := N_law_word_by) (m := m_law_word_by) T.F_law_word_by sc_law_word_by fun cdv A outer s H E hr => ?_
  exact (xss_cons (xs_asg xd_str (xg_name 1 (fun _ => sc_law_word_by.nd)))
      (xss_one (xs_ret (xd_join xd_str (xf_lc (own := [("_law_at", 2)]) (fun _ => sc_law_word_by.nd) (fun _ => blkOk_by (own := [("_law_at", 2)]) (N := N_law_word_by) (sc := defScope s_law_word_by) (by decide +kernel)) (xi_rng1 (xd_add xd_int (xd_mod (xd_fdiv (xd_v 0) xd_int) xd_int)) (fun _ => T.n_range)) (xg_name 2 (fun _ => sc_law_word_by.nd)) xts_nil (xd_ix (xd_v 1) (xd_mod (xd_add (xd_v 0) (xd_mul (xd_mul xd_int (xd_v 2)) (xd_add xd_int (xd_mod (xd_fdiv (xd_v 0) xd_int) xd_int)))) xd_int))).xd))))
theorem ok_begun (T : Tx K mg base Tb a) : FnOk P w K mg base CX0 1 a.f_begun a.d_begun ["log"] (spD Tb K G_begun) := by
  refine fnD (N := N_begun) (m := m_begun) T.F_begun sc_begun fun cdv A outer s H E hr => ?_
  exact (xss_one (xs_ret (xf_lc (own := [("row", 1)]) (fun _ => sc_begun.nd) (fun _ => blkOk_by (own := [("row", 1)]) (N := N_begun) (sc := defScope s_begun) (by decide +kernel)) (xi_list (xd_v 0)) (xg_name 1 (fun _ => sc_begun.nd)) (xts_one (xt_cmp (opk_eq (fun _ => room65 hr)) ol_eq (xd_ix (xd_v 1) xd_int) xd_str (nomark _))) (xd_ix (xd_v 1) xd_int)).xd))
theorem ok_scenes (T : Tx K mg base Tb a) : FnOk P w K mg base CX0 1 a.f_scenes a.d_scenes ["log"] (spY Tb K a.cf G_scenes) := by
  refine fnY (N := N_scenes) (m := m_scenes) T.F_scenes sc_scenes fun cdv A outer s H E hr => ?_
  exact (yss_cons (ys_asg (yd_lstC ya_nil) (yg_name 1 (fun _ => sc_scenes.nd)))
      (yss_cons (ys_asg (yd_lstC ya_nil) (yg_name 2 (fun _ => sc_scenes.nd)))
      (yss_cons (ys_for (yi_pure (xi_list (xd_v 0))) (yg_name 3 (fun _ => sc_scenes.nd))
      (yss_cons (ys_if (yt_pure (xt_cmp (opk_in (fun _ => room65 hr)) ol_in (xd_ix (xd_v 3) xd_int) (xd_tup (xa_cons xd_str (xa_cons xd_str xa_nil))) (by rfl)))
      (yss_one (ys_expr (yd_bm PySem.F.slot_list_append PySem.F.type_list_append (fun _ => mt_append) mc_app (yd_v 1) (ya_cons (yd_tup (ya_cons (yd_v 3) (ya_cons (yd_len (yd_v 2) (fun _ => T.n_len)) (ya_cons (yd_if (yt_show (xt_cmp opk_gt ol_gt (xd_len (xa_cons (xd_v 2) xa_nil) (fun _ => T.n_len)) xd_int (nomark _))) (yd_ix (yd_v 2) (yd_pure (xd_neg xd_int))) (yd_pure xd_non)) ya_nil)))) ya_nil))))
      yss_nil)
      (yss_one (ys_if (yt_pure (xt_cmp (opk_eq (fun _ => room65 hr)) ol_eq (xd_ix (xd_v 3) xd_int) xd_str (nomark _)))
      (yss_one (ys_expr (yd_bm PySem.F.slot_list_append PySem.F.type_list_append (fun _ => mt_append) mc_app (yd_v 2) (ya_cons (yd_pure (xd_ix (xd_v 3) xd_int)) ya_nil))))
      (yss_one (ys_if (yt_pure (xt_cmp (opk_eq (fun _ => room65 hr)) ol_eq (xd_ix (xd_v 3) xd_int) xd_str (nomark _)))
      (yss_one (ys_expr (yd_bm0 PySem.F.slot_list_pop PySem.F.type_list_pop (fun _ => mt_pop) mc_pop (yd_v 2))))
      yss_nil))))) (fun _ => PassesOwn.never))
      (yss_one (ys_ret (yd_frz (yd_v 1)))))))
theorem ok_inside (T : Tx K mg base Tb a) : FnOk P w K mg base CX0 2 a.f_inside a.d_inside ["log"] (spY Tb K a.cf G_inside) := by
  refine fnY (N := N_inside) (m := m_inside) T.F_inside sc_inside fun cdv A outer s H E hr => ?_
  exact (yss_one (ys_ret (yf_lc (own := [("row", 1), ("_", 2), ("innermost", 3)]) (fun _ => sc_inside.nd) (fun _ => blkOk_by (own := [("row", 1), ("_", 2), ("innermost", 3)]) (N := N_inside) (sc := defScope s_inside) (by decide +kernel)) (yi_list (yd_call (fun _ => ok_scenes T) (fun _ => hr.mono (by decide)) (fun _ => T.g_scenes) T.F_scenes.kp T.b_scenes (ya_cons (yd_v 0) ya_nil))) (yg_tup (n := 3) (fun _ => rfl) (ygs_cons (yg_name 1 (fun _ => sc_inside.nd)) (ygs_cons (yg_name 2 (fun _ => sc_inside.nd)) (ygs_cons (yg_name 3 (fun _ => sc_inside.nd)) ygs_nil)))) (yts_one (yt_pure (xt_cmp (opk_eq (fun _ => room65 hr)) ol_eq (xd_ix (xd_v 1) xd_int) xd_str (nomark _)))) (yd_pure (xd_tup (xa_cons (xd_ix (xd_v 1) xd_int) (xa_cons (xd_v 3) xa_nil))))).yd))
theorem ok_turns (T : Tx K mg base Tb a) : FnOk P w K mg base CX0 3 a.f_turns a.d_turns ["log"] (spY Tb K a.cf G_turns) := by
  refine fnY (N := N_turns) (m := m_turns) T.F_turns sc_turns fun cdv A outer s H E hr => ?_
  exact (yss_cons (ys_asg (yd_lstC ya_nil) (yg_name 1 (fun _ => sc_turns.nd)))
      (yss_cons (ys_for (yi_list (yd_call (fun _ => ok_inside T) (fun _ => hr.mono (by decide)) (fun _ => T.g_inside) T.F_inside.kp T.b_inside (ya_cons (yd_v 0) ya_nil))) (yg_tup (n := 2) (fun _ => rfl) (ygs_cons (yg_name 2 (fun _ => sc_turns.nd)) (ygs_cons (yg_name 3 (fun _ => sc_turns.nd)) ygs_nil)))
      (yss_one (ys_if (yt_pure (xt_cmp opk_isN ol_isN (xd_v 3) xd_non (nomark _)))
      (yss_one (ys_expr (yd_bm PySem.F.slot_list_append PySem.F.type_list_append (fun _ => mt_append) mc_app (yd_v 1) (ya_cons (yd_lstC (ya_cons (yd_v 2) ya_nil)) ya_nil))))
      (yss_one (ys_expr (yd_bm PySem.F.slot_list_append PySem.F.type_list_append (fun _ => mt_append) mc_app (yd_ix (yd_v 1) (yd_pure (xd_neg xd_int))) (ya_cons (yd_v 2) ya_nil)))))) (fun _ => PassesOwn.never))
      (yss_one (ys_ret (yd_v 1)))))
theorem ok_drawn (T : Tx K mg base Tb a) : FnOk P w K mg base CX0 2 a.f_drawn a.d_drawn ["log", "events"] (spY Tb K a.cf G_drawn) := by
  refine fnY (N := N_drawn) (m := m_drawn) T.F_drawn sc_drawn fun cdv A outer s H E hr => ?_
  exact (yss_cons (ys_asg (yd_lstC ya_nil) (yg_name 2 (fun _ => sc_drawn.nd)))
      (yss_cons (ys_for (yi_list (yd_call (fun _ => ok_scenes T) (fun _ => hr.mono (by decide)) (fun _ => T.g_scenes) T.F_scenes.kp T.b_scenes (ya_cons (yd_v 0) ya_nil))) (yg_tup (n := 3) (fun _ => rfl) (ygs_cons (yg_name 3 (fun _ => sc_drawn.nd)) (ygs_cons (yg_name 4 (fun _ => sc_drawn.nd)) (ygs_cons (yg_name 5 (fun _ => sc_drawn.nd)) ygs_nil))))
      (yss_cons (ys_asg (yd_pure (xd_if (xt_cmp (opk_eq (fun _ => room65 hr)) ol_eq (xd_ix (xd_v 3) xd_int) xd_str (nomark _)) (xd_fstr (xj_cons (xd_fmt (xd_ix (xd_v 3) xd_int)) (xj_cons xd_str (xj_cons (xd_fmt (xd_ix (xd_ix (xd_v 1) (xd_ix (xd_v 3) xd_int)) xd_int)) xj_nil)))) (xd_fstr (xj_cons xd_str (xj_cons (xd_fmt (xd_ix (xd_v 3) xd_int)) xj_nil))))) (yg_name 6 (fun _ => sc_drawn.nd)))
      (yss_one (ys_expr (yd_bm PySem.F.slot_list_append PySem.F.type_list_append (fun _ => mt_append) mc_app (yd_v 2) (ya_cons (yd_pure (xd_add (xd_mulS xd_str (xd_v 4)) (xd_v 6))) ya_nil))))) (fun _ => PassesOwn.never))
      (yss_one (ys_ret (yd_frz (yd_v 2))))))
theorem ok_law_row (T : Tx K mg base Tb a) : FnOk P w K mg base CX0 2 a.f_law_row a.d_law_row ["_law_own", "_law_cell"] (spY Tb K a.cf G_law_row) := by
  refine fnY (N := N_law_row) (m := m_law_row) T.F_law_row sc_law_row fun cdv A outer s H E hr => ?_
  exact (yss_cons (ys_asg (yd_dget (fun _ => room65 hr) (yd_v 0) (yd_pure xd_str)) (yg_name 2 (fun _ => sc_law_row.nd)))
      (yss_cons (ys_asg (yd_pure (xd_mod (xd_v 1) xd_int)) (yg_name 3 (fun _ => sc_law_row.nd)))
      (yss_cons (ys_if (YW.pt (yw_or (yt_pure (xt_cmp opk_lt ol_lt (xd_v 3) xd_int (nomark _))) (yw_or1 (yt_not (yt_tru (yd_v 2))))))
      (yss_cons (ys_asg (yd_len (yd_dget (fun _ => room65 hr) (yd_v 0) (yd_pure xd_str)) (fun _ => T.n_len)) (yg_name 5 (fun _ => sc_law_row.nd)))
      (yss_cons (ys_asg (yd_pure (xd_call (fun _ => ok_law_word_by T) (fun _ => hr.mono (by decide)) (fun _ => T.g_law_word_by) T.F_law_word_by.kp T.b_law_word_by (xa_cons (xd_fdiv (xd_v 1) xd_int) xa_nil))) (yg_name 6 (fun _ => sc_law_row.nd)))
      (yss_cons (ys_expr (yd_bm PySem.F.slot_list_append PySem.F.type_list_append (fun _ => mt_append) mc_app (yd_dget (fun _ => room65 hr) (yd_v 0) (yd_pure xd_str)) (ya_cons (yd_pure (xd_tup (xa_cons (xd_v 6) (xa_cons xd_non (xa_cons xd_str (xa_cons xd_int xa_nil)))))) ya_nil)))
      (yss_cons (ys_expr (yd_bm PySem.F.slot_list_append PySem.F.type_list_append (fun _ => mt_append) mc_app (yd_dget (fun _ => room65 hr) (yd_v 0) (yd_pure xd_str)) (ya_cons (yd_v 5) ya_nil)))
      (yss_cons (ys_asg (yd_pure xd_non) (yg_name 7 (fun _ => sc_law_row.nd)))
      (yss_cons (ys_if (yt_tru (yd_v 2))
      (yss_cons (ys_asg (yd_ix (yd_v 2) (yd_pure (xd_neg xd_int))) (yg_name 7 (fun _ => sc_law_row.nd)))
      (yss_one (ys_expr (yd_bm PySem.F.slot_list_append PySem.F.type_list_append (fun _ => mt_append) mc_app (yd_ix (yd_dget (fun _ => room65 hr) (yd_v 0) (yd_pure xd_str)) (yd_pure (xd_neg xd_int))) (ya_cons (yd_v 5) ya_nil)))))
      (yss_one (ys_expr (yd_bm PySem.F.slot_list_append PySem.F.type_list_append (fun _ => mt_append) mc_app (yd_dget (fun _ => room65 hr) (yd_v 0) (yd_pure xd_str)) (ya_cons (yd_lstC (ya_cons (yd_v 5) ya_nil)) ya_nil)))))
      (yss_cons (ys_expr (yd_bm PySem.F.slot_list_append PySem.F.type_list_append (fun _ => mt_append) mc_app (yd_dget (fun _ => room65 hr) (yd_v 0) (yd_pure xd_str)) (ya_cons (yd_pure (xd_tup (xa_cons (xd_v 5) (xa_cons (xd_v 7) xa_nil)))) ya_nil)))
      (yss_cons (ys_expr (yd_bm PySem.F.slot_list_append PySem.F.type_list_append (fun _ => mt_append) mc_app (yd_dget (fun _ => room65 hr) (yd_v 0) (yd_pure xd_str)) (ya_cons (yd_show (xd_add (xd_add (xd_add (xd_mulS xd_str (xd_len (xa_cons (xd_v 2) xa_nil) (fun _ => T.n_len))) (xd_str1 (xa_cons (xd_v 5) xa_nil) (fun _ => T.n_str))) xd_str) (xd_v 6))) ya_nil)))
      (yss_cons (ys_expr (yd_bm PySem.F.slot_list_append PySem.F.type_list_append (fun _ => mt_append) mc_app (yd_v 2) (ya_cons (yd_v 5) ya_nil)))
      (yss_one (ys_ret (yd_pure (xd_tup (xa_cons xd_str (xa_cons (xd_v 5) (xa_cons (xd_mod (xd_fdiv (xd_v 1) xd_int) xd_int) xa_nil))))))))))))))))
      yss_nil)
      (yss_cons (ys_if (yt_pure (xt_cmp opk_lt ol_lt (xd_v 3) xd_int (nomark _)))
      (yss_one (ys_ret (yd_tup (ya_cons (yd_pure xd_str) (ya_cons (yd_bm0 PySem.F.slot_list_pop PySem.F.type_list_pop (fun _ => mt_pop) mc_pop (yd_v 2)) ya_nil)))))
      yss_nil)
      (yss_cons (ys_if (yt_pure (xt_cmp opk_lt ol_lt (xd_v 3) xd_int (nomark _)))
      (yss_cons (ys_asg (yd_pure (xd_call (fun _ => ok_law_word_by T) (fun _ => hr.mono (by decide)) (fun _ => T.g_law_word_by) T.F_law_word_by.kp T.b_law_word_by (xa_cons (xd_fdiv (xd_v 1) xd_int) xa_nil))) (yg_name 8 (fun _ => sc_law_row.nd)))
      (yss_cons (ys_expr (yd_bm PySem.F.slot_list_append PySem.F.type_list_append (fun _ => mt_append) mc_app (yd_dget (fun _ => room65 hr) (yd_v 0) (yd_pure xd_str)) (ya_cons (yd_show (xd_add (xd_add (xd_mulS xd_str (xd_len (xa_cons (xd_v 2) xa_nil) (fun _ => T.n_len))) xd_str) (xd_v 8))) ya_nil)))
      (yss_one (ys_ret (yd_tup (ya_cons (yd_pure xd_str) (ya_cons (yd_ix (yd_v 2) (yd_pure (xd_neg xd_int))) (ya_cons (yd_v 8) ya_nil))))))))
      yss_nil)
      (yss_cons (ys_asg (yd_lst (ya_cons (yd_tup (ya_cons (yd_pure xd_str) (ya_cons (yd_ix (yd_v 2) (yd_pure (xd_neg xd_int))) ya_nil))) (ya_cons (yd_tup (ya_cons (yd_pure xd_str) (ya_cons (yd_ix (yd_v 2) (yd_pure (xd_neg xd_int))) (ya_cons (yd_pure (xd_mod (xd_fdiv (xd_v 1) xd_int) xd_int)) ya_nil)))) (ya_cons (yd_tup (ya_cons (yd_pure xd_str) (ya_cons (yd_ix (yd_v 2) (yd_pure (xd_neg xd_int))) (ya_cons (yd_pure (xd_tup (xa_cons xd_int (xa_cons xd_int xa_nil)))) ya_nil)))) ya_nil)))) (yg_name 4 (fun _ => sc_law_row.nd)))
      (yss_cons (ys_asg (yd_add (yd_v 4) (yd_lst (ya_cons (yd_pure (xd_tup (xa_cons xd_str (xa_cons (xd_mod (xd_fdiv (xd_v 1) xd_int) xd_int) xa_nil)))) (ya_cons (yd_tup (ya_cons (yd_pure xd_str) (ya_cons (yd_ix (yd_v 2) (yd_pure (xd_neg xd_int))) (ya_cons (yd_pure xd_str) ya_nil)))) (ya_cons (yd_tup (ya_cons (yd_pure xd_str) (ya_cons (yd_ix (yd_v 2) (yd_pure (xd_neg xd_int))) (ya_cons (yd_pure xd_str) ya_nil)))) ya_nil))))) (yg_name 4 (fun _ => sc_law_row.nd)))
      (yss_one (ys_ret (yd_pure (xd_ix (xd_v 4) (xd_mod (xd_fdiv (xd_v 1) xd_int) xd_int))))))))))))
theorem ok_law (T : Tx K mg base Tb a) : FnOk P w K mg base CX0 4 a.f_law a.d_law ["_law_script"] (spY Tb K a.cf G_law) := by
  refine fnY (N := N_law) (m := m_law) T.F_law sc_law fun cdv A outer s H E hr => ?_
  exact (yss_cons (ys_asg (yd_disp (yps_cons (yd_pure xd_str) (yd_lstC ya_nil) (yps_cons (yd_pure xd_str) (yd_lstC ya_nil) (yps_cons (yd_pure xd_str) (yd_lstC ya_nil) (yps_cons (yd_pure xd_str) (yd_lstC ya_nil) (yps_cons (yd_pure xd_str) (yd_lstC ya_nil) (yps_cons (yd_pure xd_str) (yd_lstC ya_nil) yps_nil))))))) (yg_name 1 (fun _ => sc_law.nd)))
      (yss_cons (ys_setLc (i := 2) (own := [("_law_cell", 10)]) (fun _ => sc_law.nd) (fun _ => blkOk_by (own := [("_law_cell", 10)]) (N := N_law) (sc := defScope s_law) (by decide +kernel)) (yi_pure (xi_list (xd_v 0))) (yg_name 10 (fun _ => sc_law.nd)) yts_nil (yd_call (fun _ => ok_law_row T) (fun _ => hr.mono (by decide)) (fun _ => T.g_law_row) T.F_law_row.kp T.b_law_row (ya_cons (yd_v 1) (ya_cons (yd_v 10) ya_nil))) (fun _ => sw_true rfl rfl rfl (by decide +kernel)))
      (yss_cons (ys_asg (yd_pure (xd_list1 (xa_cons (xd_v 2) xa_nil) (fun _ => T.n_list))) (yg_name 3 (fun _ => sc_law.nd)))
      (yss_cons (ys_asg (yf_list (yd_dget (fun _ => room65 hr) (yd_v 1) (yd_pure xd_str)) (fun _ => T.n_list)).yd (yg_name 4 (fun _ => sc_law.nd)))
      (yss_cons (ys_par3 (fun _ => sc_law.nd) 7 8 9 (ya_cons (yd_pure (xd_call (fun _ => ok_begun T) (fun _ => hr.mono (by decide)) (fun _ => T.g_begun) T.F_begun.kp T.b_begun (xa_cons (xd_v 3) xa_nil))) (ya_cons (yd_call (fun _ => ok_inside T) (fun _ => hr.mono (by decide)) (fun _ => T.g_inside) T.F_inside.kp T.b_inside (ya_cons (yd_v 3) ya_nil)) (ya_cons (yd_call (fun _ => ok_turns T) (fun _ => hr.mono (by decide)) (fun _ => T.g_turns) T.F_turns.kp T.b_turns (ya_cons (yd_v 3) ya_nil)) ya_nil))))
      (yss_cons (ys_asg (yd_call (fun _ => ok_drawn T) (fun _ => hr.mono (by decide)) (fun _ => T.g_drawn) T.F_drawn.kp T.b_drawn (ya_cons (yd_v 3) (ya_cons (yd_v 4) ya_nil))) (yg_name 5 (fun _ => sc_law.nd)))
      (yss_cons (ys_for (yi_list (yd_lstC (ya_cons (yd_v 7) (ya_cons (yd_v 8) (ya_cons (yd_v 9) (ya_cons (yd_v 5) ya_nil)))))) (yg_name 6 (fun _ => sc_law.nd))
      (yss_one (ys_if (yt_not (yt_tru (yd_show (xd_isi (Ty := "list") (xd_v 6) (fun _ => T.n_isinstance) (fun _ => T.n_list) (by decide +kernel)))))
      (yss_one (ys_ret (yd_pure xd_bl)))
      yss_nil)) (fun _ => PassesOwn.never))
      (yss_cons (ys_if (YW.pt (yw_or (yt_pure (xt_cmp (opk_ne (fun _ => room65 hr)) ol_ne (xd_v 3) (xd_v 2) (nomark _))) (yw_or (yt_show (xt_cmp (opk_ne (fun _ => room65 hr)) ol_ne (xd_v 4) (xd_dget (fun _ => room65 hr) (xd_v 1) xd_str) (nomark _))) (yw_or (yt_show (xt_cmp (opk_ne (fun _ => room65 hr)) ol_ne (xd_v 7) (xd_dget (fun _ => room65 hr) (xd_v 1) xd_str) (nomark _))) (yw_or1 (yt_show (xt_cmp (opk_ne (fun _ => room65 hr)) ol_ne (xd_v 8) (xd_dget (fun _ => room65 hr) (xd_v 1) xd_str) (nomark _))))))))
      (yss_one (ys_ret (yd_pure xd_bl)))
      yss_nil)
      (yss_one (ys_ret (yd_show (xd_and (xd_cmp (opk_eq (fun _ => room65 hr)) ol_eq (xd_v 9) (xd_dget (fun _ => room65 hr) (xd_v 1) xd_str) (nomark _)) (xd_and (xd_cmp (opk_eq (fun _ => room65 hr)) ol_eq (xd_v 5) (xd_dget (fun _ => room65 hr) (xd_v 1) xd_str) (nomark _)) (xd_one (xd_all (xa_cons (xf_lc (own := [("_law_row_here", 11)]) (fun _ => sc_law.nd) (fun _ => blkOk_by (own := [("_law_row_here", 11)]) (N := N_law) (sc := defScope s_law) (by decide +kernel)) (xi_list (xd_v 5)) (xg_name 11 (fun _ => sc_law.nd)) xts_nil (xd_isi (Ty := "str") (xd_v 11) (fun _ => T.n_isinstance) (fun _ => T.n_str) (by decide +kernel))).xd xa_nil) (fun _ => T.n_all))))))))))))))))
end
inductive Row where
  | beg (n x : Int) (w : Str)
  | fin (n : Int)
  | cal (n : Int) (w : Str)
  | oth (s : Str) (r : List D)
def hdR : Row → Str
  | .beg _ _ _ => "begin"
  | .fin _ => "end"
  | .cal _ _ => "call"
  | .oth s _ => s
def rowD : Row → D
  | .beg n x _ => .tuple [.str "begin", .int n, .int x]
  | .fin n => .tuple [.str "end", .int n]
  | .cal n w => .tuple [.str "call", .int n, .str w]
  | .oth s r => .tuple (.str s :: r)
def okR_ : Row → Prop
  | .oth s _ => s = "hush" ∨ s = "make" ∨ s = "cancel" ∨ s = "send" ∨ s = "join" ∨ s = "leave"
  | _ => True
def isB : Row → Bool
  | .beg _ _ _ => true
  | _ => false
def isE : Row → Bool
  | .fin _ => true
  | _ => false
def isC : Row → Bool
  | .beg _ _ _ => true
  | .cal _ _ => true
  | _ => false
def innD : Option Int → D
  | none => .none
  | some i => .int i
abbrev Sc := Row × Nat × Option Int
def sD (s : Sc) : D := .tuple [rowD s.1, .int s.2.1, innD s.2.2]
def toldS (ar : List Int) (r : Row) : List Sc := if isC r = true then [(r, ar.length, ar.getLast?)] else []
def arS (ar : List Int) : Row → List Int
  | .beg n _ _ => ar ++ [n]
  | .fin _ => ar.dropLast
  | _ => ar
def stepS (t : List Sc × List Int) (r : Row) : List Sc × List Int := (t.1 ++ toldS t.2 r, arS t.2 r)
def scn (rs : List Row) : List Sc × List Int := rs.foldl stepS ([], [])
theorem scn_snoc (rs : List Row) (r : Row) : scn (rs ++ [r]) = stepS (scn rs) r := by
  unfold scn
  rw [List.foldl_append]
  rfl
structure WF (rs : List Row) : Prop where
  ok : ∀ r ∈ rs, okR_ r
  nz : ∀ d n r, rs = d ++ .fin n :: r → (scn d).2 ≠ []
theorem WF.snoc {rs : List Row} {x : Row} (h : WF rs) (hx : okR_ x) (hz : isE x = true → (scn rs).2 ≠ []) : WF (rs ++ [x]) := by
  refine ⟨fun r hr => ?_, fun d n r e => ?_⟩
  · rcases List.mem_append.mp hr with hr | hr
    · exact h.ok r hr
    · rw [List.mem_singleton.mp hr]; exact hx
  · rcases List.eq_nil_or_concat r with z | ⟨r', y, z⟩
    · subst z
      have := List.append_inj' e rfl
      rw [← this.1]
      refine hz ?_
      have e2 := List.singleton_inj.mp this.2
      rw [e2]; rfl
    · rw [z, List.concat_eq_append, ← List.cons_append, ← List.append_assoc] at e
      exact h.nz d n r' (List.append_inj' e rfl).1
theorem len_scn : ∀ rs : List Row, (scn rs).2.length ≤ rs.length ∧ (scn rs).1.length ≤ rs.length := by
  intro rs
  have key : ∀ (rs : List Row) (t : List Sc × List Int), (rs.foldl stepS t).2.length ≤ t.2.length + rs.length ∧ (rs.foldl stepS t).1.length ≤ t.1.length + rs.length := by
    intro rs
    induction rs with
    | nil => intro t; exact ⟨Nat.le_refl _, Nat.le_refl _⟩
    | cons r rs ih =>
      intro t
      obtain ⟨a, b⟩ := ih (stepS t r)
      have h1 : (stepS t r).2.length ≤ t.2.length + 1 := by
        show (arS t.2 r).length ≤ _
        cases r <;> simp [arS]; omega
      have h2 : (stepS t r).1.length ≤ t.1.length + 1 := by
        show (t.1 ++ toldS t.2 r).length ≤ _
        unfold toldS
        split <;> simp
      rw [List.foldl_cons, List.length_cons]
      constructor <;> omega
  have := key rs ([], [])
  simpa [scn] using this
/-! ### heads -/
theorem dIn_two (s a b : Str) : dIn (.str s) (.tuple [.str a, .str b]) = some (.bool (a == s || b == s)) := by
  show Option.map _ (if (flatD (.str s) && [PyData.str a, .str b].all flatD) = true then some ([PyData.str a, PyData.str b].any fun z => PyData.eqv z (.str s)) else none) = _
  have fl : (flatD (.str s) && [PyData.str a, PyData.str b].all flatD) = true := rfl
  rw [if_pos fl]
  simp only [List.any_cons, List.any_nil, PyData.eqv, Bool.or_false, Option.map_some]
theorem ix0 (r : Row) : dIx (rowD r) (.int 0) = some (.str (hdR r)) := by
  have key : ∀ (s : Str) (l : List D), dIx (.tuple (.str s :: l)) (.int 0) = some (.str s) := fun s l => by
    show atI (PyData.str s :: l) 0 = _
    rw [atI_in (by decide) (by simp)]
    rfl
  cases r <;> exact key _ _
theorem hd_in (r : Row) (h : okR_ r) : dIn (.str (hdR r)) (.tuple [.str "begin", .str "call"]) = some (.bool (isC r)) := by
  rw [dIn_two]
  congr 2
  cases r with
  | beg => show (("begin" : Str) == "begin" || ("call" : Str) == "begin") = true; decide +kernel
  | fin => show (("begin" : Str) == "end" || ("call" : Str) == "end") = false; decide +kernel
  | cal => show (("begin" : Str) == "call" || ("call" : Str) == "call") = true; decide +kernel
  | oth s r =>
    show (("begin" : Str) == s || ("call" : Str) == s) = false
    rcases h with h | h | h | h | h | h <;> subst h <;> decide +kernel
theorem ok_b : PyData.strOk ("begin" : Str) = true := by decide +kernel
theorem ok_e : PyData.strOk ("end" : Str) = true := by decide +kernel
theorem ok_hd (r : Row) (h : okR_ r) : PyData.strOk (hdR r) = true := by
  cases r with
  | beg => exact ok_b
  | fin => exact ok_e
  | cal => show PyData.strOk ("call" : Str) = true; decide +kernel
  | oth s r =>
    show PyData.strOk s = true
    rcases h with h | h | h | h | h | h <;> subst h <;> decide +kernel
theorem hd_b (r : Row) (h : okR_ r) : dEq (.str (hdR r)) (.str "begin") = some (.bool (isB r)) := by
  rw [dEq_str (ok_hd r h) ok_b]
  congr 2
  cases r with
  | beg => show (("begin" : Str) == "begin") = _; first | (show _ = true; decide +kernel) | (show _ = false; decide +kernel)
  | fin => show (("end" : Str) == "begin") = _; first | (show _ = true; decide +kernel) | (show _ = false; decide +kernel)
  | cal => show (("call" : Str) == "begin") = _; first | (show _ = true; decide +kernel) | (show _ = false; decide +kernel)
  | oth s r =>
    show (s == ("begin" : Str)) = false
    rcases h with h | h | h | h | h | h <;> subst h <;> decide +kernel
theorem hd_e (r : Row) (h : okR_ r) : dEq (.str (hdR r)) (.str "end") = some (.bool (isE r)) := by
  rw [dEq_str (ok_hd r h) ok_e]
  congr 2
  cases r with
  | beg => show (("begin" : Str) == "end") = _; first | (show _ = true; decide +kernel) | (show _ = false; decide +kernel)
  | fin => show (("end" : Str) == "end") = _; first | (show _ = true; decide +kernel) | (show _ = false; decide +kernel)
  | cal => show (("call" : Str) == "end") = _; first | (show _ = true; decide +kernel) | (show _ = false; decide +kernel)
  | oth s r =>
    show (s == ("end" : Str)) = false
    rcases h with h | h | h | h | h | h <;> subst h <;> decide +kernel
theorem atI_last {α : Type} {xs : List α} {x : α} (h : xs.getLast? = some x) : atI xs (-1) = some x := by
  have hn : xs ≠ [] := by intro z; subst z; cases h
  have hl : 0 < xs.length := List.length_pos_iff.mpr hn
  unfold atI ixN
  rw [if_neg (by decide), if_pos (by omega)]
  show xs[((-1 : Int) + xs.length).toNat]? = _
  rw [show ((-1 : Int) + xs.length).toNat = xs.length - 1 by omega, ← List.getLast?_eq_getElem?]
  exact h
/-- what is kept beside some cells -/
structure Fra (S : List Nat) (μ μ' : Sto) : Prop where
  at_ : ∀ n c, n ∉ S → μ[n]? = some c → μ'[n]? = some c
  len : μ.length ≤ μ'.length
theorem Fra.refl (S : List Nat) (μ : Sto) : Fra S μ μ := ⟨fun _ _ _ h => h, Nat.le_refl _⟩
theorem Fra.set {S : List Nat} {μ : Sto} {n : Nat} {c : Cell} (h : n ∈ S) : Fra S μ (μ.set n c) := ⟨fun m d hm e => by
  rw [List.getElem?_set_ne (fun z => hm (by rw [← z]; exact h))]; exact e, by simp⟩
theorem Fra.app {S : List Nat} {μ : Sto} {c : Cell} : Fra S μ (μ ++ [c]) := ⟨fun m d hm e => get_app e, by simp⟩
theorem Fra.trans {S : List Nat} {μ μ' μ2 : Sto} (a : Fra S μ μ') (b : Fra S μ' μ2) : Fra S μ μ2 := ⟨fun n c h e => b.at_ n c h (a.at_ n c h e), Nat.le_trans a.len b.len⟩
theorem set_at {μ : Sto} {n : Nat} {c d : Cell} (h : μ[n]? = some c) : (μ.set n d)[n]? = some d := by
  obtain ⟨h, _⟩ := List.getElem?_eq_some_iff.mp h
  exact List.getElem?_set_self h
theorem set_ne {μ : Sto} {n m : Nat} {c d e : Cell} (h : μ[n]? = some c) (g : μ[m]? = some d) (ne : c ≠ d) : (μ.set n e)[m]? = some d := by
  rw [List.getElem?_set_ne]
  · exact g
  · intro z; subst z; rw [h] at g; cases g; exact ne rfl
def rowsD (rs : List Row) : D := .list (rs.map rowD)
def sW (s : Sc) : W := .da (sD s)
def FS (rs : List Row) (t a : Nat) (o : Option W) : YF := [some (.da (rowsD rs)), some (.rf t), some (.rf a), o]
def SB : YM YO := (ySeq (yIfS (yPT (mB (m2 dIn (m2 dIx (mVar 3) (mC (.int 0))) (mA dTup (mCons (mC (.str "begin")) (mCons (mC (.str "call")) mNil))))))
  (yDrop (yMC fApp (yVar 1) (yCons (yA dTup (yCons (yVar 3) (yCons (yLen (yVar 2)) (yCons (yIf (yST (mB (m2 dGt (mA dLen (mCons (mVar 2) mNil)) (mC (.int 0))))) (yIx (yVar 2) (yP (m1 dNeg (mC (.int 1))))) (yP (mC .none))) yNil)))) yNil)))
  yNext)
  (yIfS (yPT (mB (m2 dEq (m2 dIx (mVar 3) (mC (.int 0))) (mC (.str "begin")))))
  (yDrop (yMC fApp (yVar 2) (yCons (yP (m2 dIx (mVar 3) (mC (.int 1)))) yNil)))
  (yIfS (yPT (mB (m2 dEq (m2 dIx (mVar 3) (mC (.int 0))) (mC (.str "end")))))
  (yDrop (yMC fPop (yVar 2) yNil))
  yNext)))
theorem inn_run {rs : List Row} {t a : Nat} {o : Option W} {ar : List Int} {μ : Sto} (ha : μ[a]? = some (.lst (ar.map iW))) : yIf (yST (mB (m2 dGt (mA dLen (mCons (mVar 2) mNil)) (mC (.int 0))))) (yIx (yVar 2) (yP (m1 dNeg (mC (.int 1))))) (yP (mC .none)) (FS rs t a o) μ = some (.da (innD ar.getLast?), μ) := by
  have v2 : mVar 2 (toS μ (FS rs t a o)) = some (.list (ar.map .int)) := by
    unfold mVar toS FS
    simp only [List.map_cons, List.getElem?_cons_succ, List.getElem?_cons_zero, dat_ints ha]
  have t1 : yST (mB (m2 dGt (mA dLen (mCons (mVar 2) mNil)) (mC (.int 0)))) (FS rs t a o) μ = some (decide (0 < ar.length), μ) := by
    unfold yST
    have e1 : mA dLen (mCons (mVar 2) mNil) (toS μ (FS rs t a o)) = some (.int (ar.length : Int)) := mA_eq (mCons_eq v2 rfl) (by show some (PyData.int ((ar.map PyData.int).length : Int)) = _; rw [List.length_map])
    rw [mB_eq (b := decide (0 < ar.length)) (m2_eq e1 rfl (by
      show some (PyData.bool (decide ((0 : Int) < ar.length))) = _
      congr 2
      rw [decide_eq_decide]; omega))]
    rfl
  unfold yIf
  rw [t1, Option.bind_some]
  cases h : ar.getLast? with
  | none =>
    have : ar = [] := List.getLast?_eq_none_iff.mp h
    subst this
    rfl
  | some x =>
    have hn : 0 < ar.length := by
      cases ar with
      | nil => cases h
      | cons y ys => simp
    rw [decide_eq_true hn]
    simp only [if_true]
    have hx : atI (ar.map iW) (-1) = some (iW x) := atI_last (by rw [List.getLast?_map, h]; rfl)
    have e2 : yP (m1 dNeg (mC (.int 1))) (FS rs t a o) μ = some (.da (.int (-1)), μ) := rfl
    unfold yIx
    show ((some (W.rf a, μ)).bind _) = _
    rw [Option.bind_some, e2, Option.bind_some]
    simp only [ha, hx, Option.map_some]
    rfl
theorem sb_run {rs : List Row} {t a : Nat} {r : Row} {told : List Sc} {ar : List Int} {μ : Sto} (hr : okR_ r) (hz : isE r = true → ar ≠ []) (ht : μ[t]? = some (.lst (told.map sW))) (ha : μ[a]? = some (.lst (ar.map iW))) (ne : t ≠ a) (l1 : told.length < sizeLine) (l2 : ar.length < sizeLine) :
    ∃ μ', SB (FS rs t a (some (.da (rowD r)))) μ = some (.nx (FS rs t a (some (.da (rowD r)))), μ') ∧ μ'[t]? = some (.lst ((told ++ toldS ar r).map sW)) ∧ μ'[a]? = some (.lst ((arS ar r).map iW)) ∧ Fra [t, a] μ μ' ∧ μ'.length = μ.length := by
  have v3 : mVar 3 (toP (FS rs t a (some (.da (rowD r))))) = some (rowD r) := rfl
  have i0 := m2_eq (b := mC (.int 0)) v3 rfl (ix0 r)
  have c1 : yPT (mB (m2 dIn (m2 dIx (mVar 3) (mC (.int 0))) (mA dTup (mCons (mC (.str "begin")) (mCons (mC (.str "call")) mNil))))) (FS rs t a (some (.da (rowD r)))) μ = some (isC r, μ) := by
    unfold yPT
    rw [mB_eq (m2_eq i0 (show mA dTup (mCons (mC (.str "begin")) (mCons (mC (.str "call")) mNil)) _ = some (.tuple [.str "begin", .str "call"]) from rfl) (hd_in r hr))]
    rfl
  have first : ∃ μ1, yIfS (yPT (mB (m2 dIn (m2 dIx (mVar 3) (mC (.int 0))) (mA dTup (mCons (mC (.str "begin")) (mCons (mC (.str "call")) mNil)))))) (yDrop (yMC fApp (yVar 1) (yCons (yA dTup (yCons (yVar 3) (yCons (yLen (yVar 2)) (yCons (yIf (yST (mB (m2 dGt (mA dLen (mCons (mVar 2) mNil)) (mC (.int 0))))) (yIx (yVar 2) (yP (m1 dNeg (mC (.int 1))))) (yP (mC .none))) yNil)))) yNil))) yNext (FS rs t a (some (.da (rowD r)))) μ = some (.nx (FS rs t a (some (.da (rowD r)))), μ1) ∧ μ1[t]? = some (.lst ((told ++ toldS ar r).map sW)) ∧ μ1[a]? = some (.lst (ar.map iW)) ∧ Fra [t, a] μ μ1 ∧ μ1.length = μ.length := by
    cases hc : isC r with
    | false =>
      refine ⟨μ, ?_, ?_, ha, .refl _ _, rfl⟩
      · rw [yIfS_f (c1.trans (by rw [hc]))]; rfl
      · unfold toldS
        rw [hc, if_neg Bool.false_ne_true, List.append_nil]; exact ht
    | true =>
      have et : toldS ar r = [(r, ar.length, ar.getLast?)] := by unfold toldS; rw [hc, if_pos rfl]
      rw [et]
      refine ⟨μ.set t (.lst ((told ++ [(r, ar.length, ar.getLast?)]).map sW)), ?_, set_at ht, by rw [List.getElem?_set_ne ne]; exact ha, .set (by simp), by simp⟩
      rw [yIfS_t (c1.trans (by rw [hc]))]
      have tup : yA dTup (yCons (yVar 3) (yCons (yLen (yVar 2)) (yCons (yIf (yST (mB (m2 dGt (mA dLen (mCons (mVar 2) mNil)) (mC (.int 0))))) (yIx (yVar 2) (yP (m1 dNeg (mC (.int 1))))) (yP (mC .none))) yNil))) (FS rs t a (some (.da (rowD r)))) μ = some (sW (r, ar.length, ar.getLast?), μ) := by
        have ln : yLen (yVar 2) (FS rs t a (some (.da (rowD r)))) μ = some (.da (.int (ar.length : Int)), μ) := by
          unfold yLen
          show ((some (W.rf a, μ)).bind _) = _
          rw [Option.bind_some]
          simp only [ha, List.length_map]
        have cs := yCons_of (a := yVar 3) (ρ := FS rs t a (some (.da (rowD r)))) (μ := μ) (w := .da (rowD r)) rfl (yCons_of ln (yCons_of (inn_run (rs := rs) (t := t) (o := some (.da (rowD r))) ha) (rfl : yNil (FS rs t a (some (.da (rowD r)))) μ = some ([], μ))))
        unfold yA
        rw [cs, Option.bind_some]
        rfl
      have hz' : (told.map sW).length < sizeLine := by rw [List.length_map]; exact l1
      refine yDrop_of (w := .da .none) (yMC_of (n := t) (ws := told.map sW) (us := [sW (r, ar.length, ar.getLast?)]) rfl ⟨_, ht⟩ (yCons_of tup rfl) ht ?_)
      show (if (told.map sW).length < sizeLine then some (W.da .none, told.map sW ++ [sW (r, ar.length, ar.getLast?)]) else none) = _
      rw [if_pos hz', List.map_append]; rfl
  obtain ⟨μ1, e1, k1, k2, f1, n1⟩ := first
  have c2 : yPT (mB (m2 dEq (m2 dIx (mVar 3) (mC (.int 0))) (mC (.str "begin")))) (FS rs t a (some (.da (rowD r)))) μ1 = some (isB r, μ1) := by
    unfold yPT
    rw [mB_eq (m2_eq i0 rfl (hd_b r hr))]
    rfl
  have c3 : yPT (mB (m2 dEq (m2 dIx (mVar 3) (mC (.int 0))) (mC (.str "end")))) (FS rs t a (some (.da (rowD r)))) μ1 = some (isE r, μ1) := by
    unfold yPT
    rw [mB_eq (m2_eq i0 rfl (hd_e r hr))]
    rfl
  unfold SB
  rw [ySeq_nx e1]
  have other : isB r = false → isE r = false → arS ar r = ar := fun h1 h2 => by cases r <;> first | rfl | (cases h1; done) | (cases h2; done)
  cases hb : isB r with
  | true =>
    cases r with
    | beg n x w =>
      refine ⟨μ1.set a (.lst ((ar ++ [n]).map iW)), ?_, by rw [List.getElem?_set_ne ne.symm]; exact k1, set_at k2, f1.trans (.set (by simp)), by simp [n1]⟩
      rw [yIfS_t (c2.trans (by rw [hb]))]
      have hz' : (ar.map iW).length < sizeLine := by rw [List.length_map]; exact l2
      refine yDrop_of (w := .da .none) (yMC_of (n := a) (ws := ar.map iW) (us := [iW n]) rfl ⟨_, k2⟩ rfl k2 ?_)
      show (if (ar.map iW).length < sizeLine then some (W.da .none, ar.map iW ++ [iW n]) else none) = _
      rw [if_pos hz', List.map_append]; rfl
    | fin => cases hb
    | cal => cases hb
    | oth => cases hb
  | false =>
    rw [yIfS_f (c2.trans (by rw [hb]))]
    cases he : isE r with
    | true =>
      cases r with
      | fin n =>
        have hn := hz he
        refine ⟨μ1.set a (.lst (ar.dropLast.map iW)), ?_, by rw [List.getElem?_set_ne ne.symm]; exact k1, set_at k2, f1.trans (.set (by simp)), by simp [n1]⟩
        rw [yIfS_t (c3.trans (by rw [he]))]
        have hl : (ar.map iW)[(ar.map iW).length - 1]? = some (iW (ar.getLast hn)) := by
          rw [← List.getLast?_eq_getElem?, List.getLast?_map, List.getLast?_eq_some_getLast hn]; rfl
        refine yDrop_of (w := iW (ar.getLast hn)) (yMC_of (n := a) (ws := ar.map iW) (us := []) rfl ⟨_, k2⟩ rfl k2 ?_)
        show ((ar.map iW)[(ar.map iW).length - 1]?).map (fun w => (w, (ar.map iW).dropLast)) = _
        rw [hl, List.map_dropLast]; rfl
      | beg => cases he
      | cal => cases he
      | oth => cases he
    | false =>
      refine ⟨μ1, ?_, k1, by rw [other hb he]; exact k2, f1, n1⟩
      rw [yIfS_f (c3.trans (by rw [he]))]
      rfl
theorem kept_of {S : List Nat} {μ μ' : Sto} (f : Fra S μ μ') (h : ∀ n ∈ S, μ.length ≤ n) : Fra [] μ μ' := ⟨fun n c _ e => f.at_ n c (fun z => by
  have := h n z
  have := (List.getElem?_eq_some_iff.mp e).1
  omega) e, f.len⟩
theorem sD_all (l : List Sc) : allDa (l.map sW) = some (l.map sD) := by
  have : l.map sW = (l.map sD).map W.da := by rw [List.map_map]; rfl
  rw [this, allDa_map]
theorem scenes_run {rs : List Row} {μ : Sto} (h : WF rs) (hl : rs.length ≤ 1000) : ∃ μ', G_scenes [.da (rowsD rs)] μ = some (.da (.list ((scn rs).1.map sD)), μ') ∧ Fra [] μ μ' := by
  let μ1 := μ ++ [Cell.lst []]
  let μ2 := μ1 ++ [Cell.lst []]
  have l1 : μ1.length = μ.length + 1 := by show (μ ++ [Cell.lst []]).length = _; simp
  have g1 : μ2[μ.length]? = some (.lst []) := by
    refine get_app ?_
    show (μ ++ [Cell.lst []])[μ.length]? = _
    rw [List.getElem?_append_right (Nat.le_refl _), Nat.sub_self]; rfl
  have g2 : μ2[μ1.length]? = some (.lst []) := by
    show (μ1 ++ [Cell.lst []])[μ1.length]? = _
    rw [List.getElem?_append_right (Nat.le_refl _), Nat.sub_self]; rfl
  have F0 : Fra [μ.length, μ1.length] μ μ2 := ⟨fun n c _ e => get_app (get_app e), by show _ ≤ (μ1 ++ [Cell.lst []]).length; simp [l1]; omega⟩
  obtain ⟨ρ', μ', e1, o, rfl, k1, k2, f⟩ := yForL_inv (gd := gdT) (g := ygSet 3) (b := SB) (e := fun r => W.da (rowD r)) (fun d ρ μ' => ∃ o, ρ = FS rs μ.length μ1.length o ∧ μ'[μ.length]? = some (.lst ((scn d).1.map sW)) ∧ μ'[μ1.length]? = some (.lst ((scn d).2.map iW)) ∧ Fra [μ.length, μ1.length] μ μ') (l := rs) (done := []) (ρ := FS rs μ.length μ1.length none) (μ := μ2)
    ⟨none, rfl, g1, g2, F0⟩ (fun d r ρ μ3 hI ⟨q, hq⟩ => by
    obtain ⟨o, rfl, k1, k2, f⟩ := hI
    rw [List.nil_append] at hq
    have hd : d.length < 1000 := by
      have := congrArg List.length hq
      simp only [List.length_append, List.length_cons] at this
      omega
    obtain ⟨b1, b2⟩ := len_scn d
    have z : (1000 : Nat) ≤ sizeLine := by decide
    obtain ⟨μ4, s1, s2, s3, s4, _⟩ := sb_run (rs := rs) (r := r) (h.ok r (by rw [hq]; simp)) (fun he => by
      cases r with
      | fin n => exact h.nz d n q hq
      | beg => cases he
      | cal => cases he
      | oth => cases he) k1 k2 (by omega) (by omega) (by omega)
    refine ⟨FS rs μ.length μ1.length (some (.da (rowD r))), _, μ4, rfl, s1, rfl, _, rfl, ?_, ?_, f.trans s4⟩
    · rw [scn_snoc]; exact s2
    · rw [scn_snoc]; exact s3)
  rw [List.nil_append] at k1
  refine ⟨μ'.set μ.length .gone, ?_, kept_of (f.trans (.set (by simp))) (fun n hn => ?_)⟩
  · refine runY_rt rfl ?_
    unfold m_scenes
    show ySeq _ _ [some (.da (rowsD rs)), none, none, none] μ = _
    have nl : ∀ (ρ : YF) (μ : Sto), yLstC yNil ρ μ = some (.rf μ.length, μ ++ [.lst []]) := fun ρ μ => by
      show (if ([] : List W).length ≤ sizeLine then some (W.rf μ.length, μ ++ [Cell.lst []]) else none) = _
      exact if_pos (Nat.zero_le _)
    refine (ySeq_nx (yAsg_of (ρ1 := [some (.da (rowsD rs)), some (.rf μ.length), none, none]) (nl _ _) rfl)).trans ?_
    refine (ySeq_nx (yAsg_of (ρ1 := FS rs μ.length μ1.length none) (nl _ _) rfl)).trans ?_
    refine (ySeq_nx (a := yFor (yItP (mItL (mVar 0))) (ygSet 3) SB) (ρ1 := FS rs μ.length μ1.length o) (μ1 := μ') ?_).trans ?_
    · unfold yFor
      have : yItP (mItL (mVar 0)) (FS rs μ.length μ1.length none) μ2 = some ((rs.map fun r => W.da (rowD r), gdT), μ2) := by
        have : yItP (mItL (mVar 0)) (FS rs μ.length μ1.length none) μ2 = some (((rs.map rowD).map W.da, gdT), μ2) := rfl
        rw [this, List.map_map]; rfl
      show (yItP (mItL (mVar 0)) (FS rs μ.length μ1.length none) μ2).bind _ = _
      rw [this, Option.bind_some]
      exact e1
    · refine yRet_of ?_
      unfold yFrz
      show ((some (W.rf μ.length, μ')).bind _) = _
      rw [Option.bind_some]
      simp only [k1, sD_all, Option.map_some]
  · simp only [List.mem_cons, List.not_mem_nil, or_false] at hn
    omega
/-! ### inside -/
def insOf (l : List Sc) : List (Int × Option Int) := l.filterMap fun s => match s.1 with
  | .beg n _ _ => some (n, s.2.2)
  | _ => none
def iD (p : Int × Option Int) : D := .tuple [.int p.1, innD p.2]
theorem inside_run {rs : List Row} {μ : Sto} (h : WF rs) (hl : rs.length ≤ 1000) : ∃ μ', G_inside [.da (rowsD rs)] μ = some (.da (.list ((insOf (scn rs).1).map iD)), μ') ∧ Fra [] μ μ' := by
  obtain ⟨μ', e1, f⟩ := scenes_run (μ := μ) h hl
  refine ⟨μ', ?_, f⟩
  refine runY_rt rfl ?_
  unfold m_inside
  show yRet _ [some (.da (rowsD rs)), none, none, none] μ = _
  have ok : ∀ s ∈ (scn rs).1, okR_ s.1 := by
    have key : ∀ (rs : List Row) (t : List Sc × List Int), (∀ r ∈ rs, okR_ r) → (∀ s ∈ t.1, okR_ s.1) → ∀ s ∈ (rs.foldl stepS t).1, okR_ s.1 := by
      intro rs
      induction rs with
      | nil => intro t _ h; exact h
      | cons r rs ih =>
        intro t h1 h2
        refine ih (stepS t r) (fun x hx => h1 x (List.mem_cons_of_mem _ hx)) fun s hs => ?_
        rcases List.mem_append.mp hs with hs | hs
        · exact h2 s hs
        · unfold toldS at hs
          split at hs
          · rw [List.mem_singleton.mp hs]; exact h1 r List.mem_cons_self
          · cases hs
    exact key rs ([], []) h.ok (fun s hs => by cases hs)
  have it : yItL (yCall G_scenes (yCons (yVar 0) yNil)) [some (.da (rowsD rs)), none, none, none] μ = some (((scn rs).1.map sW, gdT), μ') := by
    unfold yItL
    rw [yCall_of (ws := [.da (rowsD rs)]) (μ1 := μ) rfl e1, Option.bind_some]
    show some ((((scn rs).1.map sD).map W.da, gdT), μ') = _
    rw [List.map_map]; rfl
  have lc := yLc_fm (vs := [1, 2, 3]) (g := ygTup 3 (ygCons (ygSet 1) (ygCons (ygSet 2) (ygCons (ygSet 3) ygNil)))) (mt := yPT (mB (m2 dEq (m2 dIx (mVar 1) (mC (.int 0))) (mC (.str "begin"))))) (me := yP (mA dTup (mCons (m2 dIx (mVar 1) (mC (.int 1))) (mCons (mVar 3) mNil)))) (o := fun s : Sc => match s.1 with | .beg n _ _ => some (W.da (iD (n, s.2.2))) | _ => none) it rfl (Nat.le_trans (len_scn rs).2 (Nat.le_trans hl (by decide))) (fun s hs => by
    obtain ⟨r, d, i⟩ := s
    have st : ygTup 3 (ygCons (ygSet 1) (ygCons (ygSet 2) (ygCons (ygSet 3) ygNil))) (sW (r, d, i)) (wipeY [some (.da (rowsD rs)), none, none, none] [1, 2, 3]) = some [some (.da (rowsD rs)), some (.da (rowD r)), some (.da (.int (d : Int))), some (.da (innD i))] := rfl
    have te : yPT (mB (m2 dEq (m2 dIx (mVar 1) (mC (.int 0))) (mC (.str "begin")))) [some (.da (rowsD rs)), some (.da (rowD r)), some (.da (.int (d : Int))), some (.da (innD i))] μ' = some (isB r, μ') := by
      unfold yPT
      rw [mB_eq (m2_eq (m2_eq (x := rowD r) rfl rfl (ix0 r)) rfl (hd_b r (ok _ hs)))]
      rfl
    unfold yTurn
    rw [st, Option.bind_some, te, Option.bind_some]
    cases r <;> rfl)
  have e2 : ((scn rs).1.filterMap fun s : Sc => match s.1 with | .beg n _ _ => some (W.da (iD (n, s.2.2))) | _ => none) = (insOf (scn rs).1).map fun p => W.da (iD p) := by
    unfold insOf
    rw [List.map_filterMap]
    congr 1
    funext s
    obtain ⟨r, d, i⟩ := s
    cases r <;> rfl
  rw [e2] at lc
  refine yRet_of (yL_of lc ?_)
  have : ((insOf (scn rs).1).map fun p => W.da (iD p)) = ((insOf (scn rs).1).map iD).map W.da := by rw [List.map_map]; rfl
  rw [this, allDa_map]
def begOf (rs : List Row) : List Int := rs.filterMap fun r => match r with
  | .beg n _ _ => some n
  | _ => none
theorem begun_run {rs : List Row} (h : WF rs) (hl : rs.length ≤ 1000) : G_begun [rowsD rs] = some (.list ((begOf rs).map .int)) := by
  refine run_rt rfl ?_
  unfold m_begun
  show mRet _ [.va (rowsD rs), .no] = _
  have lc := mLc_fm (mi := mItL (mVar 0)) (vs := [1]) (g := gSet 1) (mt := mB (m2 dEq (m2 dIx (mVar 1) (mC (.int 0))) (mC (.str "begin")))) (me := m2 dIx (mVar 1) (mC (.int 1))) (ρ := [.va (rowsD rs), .no]) (e := rowD) (o := fun r : Row => match r with | .beg n _ _ => some (PyData.int n) | _ => none) (l := rs) rfl (Nat.le_trans hl (by decide)) (fun r hr => by
    have st : gSet 1 (rowD r) (wipeF [.va (rowsD rs), .no] [1]) = some [.va (rowsD rs), .va (rowD r)] := rfl
    have te : mB (m2 dEq (m2 dIx (mVar 1) (mC (.int 0))) (mC (.str "begin"))) [.va (rowsD rs), .va (rowD r)] = some (isB r) := mB_eq (m2_eq (m2_eq (x := rowD r) rfl rfl (ix0 r)) rfl (hd_b r (h.ok r hr)))
    unfold turnD
    rw [st, Option.bind_some, te, Option.bind_some]
    cases r <;> rfl)
  have e2 : (rs.filterMap fun r : Row => match r with | .beg n _ _ => some (PyData.int n) | _ => none) = (begOf rs).map .int := by
    unfold begOf
    rw [List.map_filterMap]
    congr 1
    funext r
    cases r <;> rfl
  rw [e2] at lc
  exact mRet_eq (mL_eq lc)
/-! ### lists of lists -/
structure LLs (μ : Sto) (t : Nat) (cs : List Nat) (tl : List (List Int)) : Prop where
  at_ : μ[t]? = some (.lst (cs.map W.rf))
  each : ∀ p ∈ cs.zip tl, μ[p.1]? = some (.lst (p.2.map iW))
  len : cs.length = tl.length
  nd : cs.Nodup
  nt : t ∉ cs
theorem zip_app {α β : Type} {a : List α} {b : List β} (h : a.length = b.length) (x : α) (y : β) : (a ++ [x]).zip (b ++ [y]) = a.zip b ++ [(x, y)] := by
  rw [List.zip_append h]; rfl
theorem LLs.lt {μ : Sto} {t : Nat} {cs : List Nat} {tl : List (List Int)} (h : LLs μ t cs tl) : ∀ c ∈ cs, c < μ.length := fun c hc => by
  obtain ⟨i, hi, e⟩ := List.getElem_of_mem hc
  have hi2 : i < tl.length := by rw [← h.len]; exact hi
  have := h.each (cs[i], tl[i]) (by
    rw [List.mem_iff_getElem]
    exact ⟨i, by rw [List.length_zip, h.len, Nat.min_self]; exact hi2, by rw [List.getElem_zip]⟩)
  rw [e] at this
  exact (List.getElem?_eq_some_iff.mp this).1
theorem LLs.new {μ : Sto} {t : Nat} {cs : List Nat} {tl : List (List Int)} (h : LLs μ t cs tl) (n : Int) : LLs ((μ ++ [Cell.lst [iW n]]).set t (.lst (cs.map W.rf ++ [W.rf μ.length]))) t (cs ++ [μ.length]) (tl ++ [[n]]) := by
  have ht := (List.getElem?_eq_some_iff.mp h.at_).1
  refine ⟨?_, fun p hp => ?_, by simp [h.len], ?_, ?_⟩
  · rw [List.map_append]
    exact set_at (get_app h.at_)
  · rw [zip_app h.len] at hp
    rcases List.mem_append.mp hp with hp | hp
    · have hne : p.1 ≠ t := fun z => h.nt (z ▸ (List.of_mem_zip hp).1)
      rw [List.getElem?_set_ne (Ne.symm hne)]
      exact get_app (h.each p hp)
    · rw [List.mem_singleton.mp hp]
      rw [List.getElem?_set_ne (by show t ≠ μ.length; omega), List.getElem?_append_right (Nat.le_refl _), Nat.sub_self]
      rfl
  · rw [List.nodup_append]
    refine ⟨h.nd, by simp, fun a ha b hb z => ?_⟩
    rcases List.mem_singleton.mp hb with rfl
    have := h.lt a ha
    omega
  · intro z
    rcases List.mem_append.mp z with z | z
    · exact h.nt z
    · have := List.mem_singleton.mp z; omega
theorem LLs.last {μ : Sto} {t c : Nat} {cs : List Nat} {tl : List (List Int)} {l : List Int} (h : LLs μ t (cs ++ [c]) (tl ++ [l])) (n : Int) : LLs (μ.set c (Cell.lst (l.map iW ++ [iW n]))) t (cs ++ [c]) (tl ++ [l ++ [n]]) := by
  have hl : cs.length = tl.length := by have := h.len; simpa using this
  have hz := zip_app hl c l
  have hc := h.each (c, l) (by rw [hz]; simp)
  have tc : t ≠ c := fun z => h.nt (by rw [z]; simp)
  refine ⟨by rw [List.getElem?_set_ne tc.symm]; exact h.at_, fun p hp => ?_, by simp [hl], h.nd, h.nt⟩
  rw [zip_app hl] at hp
  rcases List.mem_append.mp hp with hp | hp
  · have hne : p.1 ≠ c := fun z => by
      have hd := h.nd
      rw [List.nodup_append] at hd
      exact hd.2.2 p.1 (List.of_mem_zip hp).1 c (by simp) z
    rw [List.getElem?_set_ne (Ne.symm hne)]
    exact h.each p (by rw [hz]; exact List.mem_append_left _ hp)
  · rw [List.mem_singleton.mp hp, List.map_append]
    exact set_at hc
theorem LLs.dat {μ : Sto} {t k : Nat} {cs : List Nat} {tl : List (List Int)} (h : LLs μ t cs tl) : Md.dat μ (k + 2) (.rf t) = some (.list (tl.map fun l => PyData.list (l.map .int))) := by
  have key : ∀ (cs : List Nat) (tl : List (List Int)), cs.length = tl.length → (∀ p ∈ cs.zip tl, μ[p.1]? = some (.lst (p.2.map iW))) → allO (Md.dat μ (k + 1)) (cs.map W.rf) = some (tl.map fun l => PyData.list (l.map .int)) := by
    intro cs
    induction cs with
    | nil =>
      intro tl hl _
      have : tl = [] := List.length_eq_zero_iff.mp hl.symm
      subst this
      rfl
    | cons c cs ih =>
      intro tl hl hh
      cases tl with
      | nil => simp at hl
      | cons l tl =>
        rw [List.map_cons]
        unfold allO
        rw [dat_ints (hh (c, l) (by simp)), Option.bind_some, ih tl (by simpa using hl) (fun p hp => hh p (by rw [List.zip_cons_cons]; exact List.mem_cons_of_mem _ hp))]
        rfl
  show (match μ[t]? with | some (.lst ws) => (allO (Md.dat μ (k + 1)) ws).map PyData.list | some (.dct kws) => (allK (Md.dat μ (k + 1)) kws).map PyData.dict | _ => none) = _
  rw [h.at_]
  simp only [key cs tl h.len h.each, Option.map_some]
/-! ### turns -/
def trS (ts : List (List Int)) (p : Int × Option Int) : List (List Int) := match p.2 with
  | none => ts ++ [[p.1]]
  | some _ => ts.dropLast ++ [ts.getLast?.getD [] ++ [p.1]]
def trn (is : List (Int × Option Int)) : List (List Int) := is.foldl trS []
theorem trn_snoc (is : List (Int × Option Int)) (p : Int × Option Int) : trn (is ++ [p]) = trS (trn is) p := by
  unfold trn
  rw [List.foldl_append]; rfl
theorem trn_len (is : List (Int × Option Int)) : (trn is).length ≤ is.length + 1 ∧ ∀ l ∈ trn is, l.length ≤ is.length := by
  have key : ∀ (is : List (Int × Option Int)) (t : List (List Int)) (n m : Nat), t.length ≤ n → (∀ l ∈ t, l.length ≤ m) → (is.foldl trS t).length ≤ n + is.length + 1 ∧ ∀ l ∈ is.foldl trS t, l.length ≤ m + is.length := by
    intro is
    induction is with
    | nil => intro t n m h1 h2; exact ⟨by simp; omega, fun l hl => by have := h2 l hl; simp; omega⟩
    | cons p is ih =>
      intro t n m h1 h2
      have h3 : (trS t p).length ≤ n + 1 := by
        unfold trS
        split
        · simp; omega
        · simp; omega
      have h4 : ∀ l ∈ trS t p, l.length ≤ m + 1 := by
        unfold trS
        split
        · intro l hl
          rcases List.mem_append.mp hl with hl | hl
          · have := h2 l hl; omega
          · rw [List.mem_singleton.mp hl]; simp
        · intro l hl
          rcases List.mem_append.mp hl with hl | hl
          · have := h2 l (List.dropLast_subset _ hl); omega
          · rw [List.mem_singleton.mp hl, List.length_append, List.length_singleton]
            cases q : t.getLast? with
            | none => simp
            | some x =>
              have := h2 x (List.mem_of_getLast? q)
              simp; omega
      obtain ⟨a, b⟩ := ih (trS t p) (n + 1) (m + 1) h3 h4
      refine ⟨?_, fun l hl => ?_⟩
      · rw [List.foldl_cons, List.length_cons]; omega
      · have := b l hl; rw [List.length_cons]; omega
  have := key is [] 0 0 (Nat.le_refl _) (fun l hl => by cases hl)
  simpa [trn] using this
def WFI (is : List (Int × Option Int)) : Prop := ∀ d p r, is = d ++ p :: r → p.2 ≠ none → trn d ≠ []
theorem snoc_of {α : Type} {l : List α} (h : l ≠ []) : ∃ a x, l = a ++ [x] := by
  rcases List.eq_nil_or_concat l with z | ⟨a, x, z⟩
  · exact absurd z h
  · exact ⟨a, x, by rw [z, List.concat_eq_append]⟩
def TB : YM YO := (yIfS (yPT (mB (m2 dIsN (mVar 3) (mC .none))))
  (yDrop (yMC fApp (yVar 1) (yCons (yLstC (yCons (yVar 2) yNil)) yNil)))
  (yDrop (yMC fApp (yIx (yVar 1) (yP (m1 dNeg (mC (.int 1))))) (yCons (yVar 2) yNil))))
theorem tb_run {d0 : D} {t : Nat} {cs : List Nat} {tl : List (List Int)} {p : Int × Option Int} {μ : Sto} (h : LLs μ t cs tl) (hz : p.2 ≠ none → tl ≠ []) (l1 : tl.length < sizeLine) (l2 : ∀ l ∈ tl, l.length < sizeLine) :
    ∃ μ' cs', TB [some (.da d0), some (.rf t), some (iW p.1), some (.da (innD p.2))] μ = some (.nx [some (.da d0), some (.rf t), some (iW p.1), some (.da (innD p.2))], μ') ∧ LLs μ' t cs' (trS tl p) ∧ Fra (t :: cs) μ μ' ∧ (∀ c ∈ cs', c ∈ cs ∨ μ.length ≤ c) := by
  obtain ⟨n, i⟩ := p
  have c1 : yPT (mB (m2 dIsN (mVar 3) (mC .none))) [some (.da d0), some (.rf t), some (iW n), some (.da (innD i))] μ = some (i.isNone, μ) := by
    unfold yPT
    cases i <;> rfl
  unfold TB
  cases i with
  | none =>
    refine ⟨_, _, ?_, h.new n, ⟨fun m c hm e => ?_, by simp⟩, fun c hc => ?_⟩
    · show yIfS _ _ _ [some (.da d0), some (.rf t), some (iW n), some (.da (innD none))] μ = _
      rw [yIfS_t c1]
      have hz' : (cs.map W.rf).length < sizeLine := by rw [List.length_map, h.len]; exact l1
      have ev : yLstC (yCons (yVar 2) yNil) [some (.da d0), some (.rf t), some (iW n), some (.da (innD none))] μ = some (.rf μ.length, μ ++ [.lst [iW n]]) := by
        show (if [iW n].length ≤ sizeLine then some (W.rf μ.length, μ ++ [Cell.lst [iW n]]) else none) = _
        exact if_pos (show 1 ≤ sizeLine by decide)
      refine yDrop_of (w := .da .none) (yMC_of (n := t) (ws := cs.map W.rf) (us := [.rf μ.length]) rfl ⟨_, h.at_⟩ (yCons_of ev rfl) (get_app h.at_) ?_)
      show (if (cs.map W.rf).length < sizeLine then some (W.da .none, cs.map W.rf ++ [W.rf μ.length]) else none) = _
      rw [if_pos hz']
    · rw [List.getElem?_set_ne (fun z => hm (by rw [← z]; simp))]
      exact get_app e
    · rcases List.mem_append.mp hc with hc | hc
      · exact .inl hc
      · exact .inr (by rw [List.mem_singleton.mp hc]; exact Nat.le_refl _)
  | some x =>
    obtain ⟨tl0, l, e1⟩ := snoc_of (hz (by simp))
    have hcs : cs ≠ [] := fun z => by
      have := h.len
      rw [z, e1] at this
      simp at this
    obtain ⟨cs0, c, e2⟩ := snoc_of hcs
    subst e1 e2
    have hl0 : cs0.length = tl0.length := by have := h.len; simpa using this
    have hc := h.each (c, l) (by rw [zip_app hl0]; simp)
    have et : trS (tl0 ++ [l]) (n, some x) = tl0 ++ [l ++ [n]] := by
      show (tl0 ++ [l]).dropLast ++ [(tl0 ++ [l]).getLast?.getD [] ++ [n]] = _
      simp
    rw [et]
    refine ⟨_, _, ?_, h.last n, .set (by simp), fun c' hc' => .inl hc'⟩
    show yIfS _ _ _ [some (.da d0), some (.rf t), some (iW n), some (.da (innD (some x)))] μ = _
    rw [yIfS_f c1]
    have hz' : (l.map iW).length < sizeLine := by rw [List.length_map]; exact l2 l (by simp)
    have ev : yIx (yVar 1) (yP (m1 dNeg (mC (.int 1)))) [some (.da d0), some (.rf t), some (iW n), some (.da (innD (some x)))] μ = some (.rf c, μ) := by
      have hx : atI ((cs0 ++ [c]).map W.rf) (-1) = some (.rf c) := atI_last (by rw [List.getLast?_map]; simp)
      unfold yIx
      show ((some (W.rf t, μ)).bind _) = _
      have e2 : yP (m1 dNeg (mC (.int 1))) [some (.da d0), some (.rf t), some (iW n), some (.da (innD (some x)))] μ = some (.da (.int (-1)), μ) := rfl
      rw [Option.bind_some, e2, Option.bind_some]
      simp only [h.at_, hx, Option.map_some]
    refine yDrop_of (w := .da .none) (yMC_of (n := c) (ws := l.map iW) (us := [iW n]) ev ⟨_, hc⟩ rfl hc ?_)
    show (if (l.map iW).length < sizeLine then some (W.da .none, l.map iW ++ [iW n]) else none) = _
    rw [if_pos hz']
theorem turns_run {rs : List Row} {μ : Sto} (h : WF rs) (hl : rs.length ≤ 900) (hi : WFI (insOf (scn rs).1)) : ∃ μ' t cs, G_turns [.da (rowsD rs)] μ = some (.rf t, μ') ∧ LLs μ' t cs (trn (insOf (scn rs).1)) ∧ Fra [] μ μ' := by
  let μ1 := μ ++ [Cell.lst []]
  have g1 : μ1[μ.length]? = some (.lst []) := by
    show (μ ++ [Cell.lst []])[μ.length]? = _
    rw [List.getElem?_append_right (Nat.le_refl _), Nat.sub_self]; rfl
  obtain ⟨μ2, i1, i2⟩ := inside_run (μ := μ1) h (by omega)
  have g2 := i2.at_ _ _ (by simp) g1
  have l2 : μ.length < μ2.length := (List.getElem?_eq_some_iff.mp g2).1
  have il : (insOf (scn rs).1).length ≤ 900 := by
    have a1 := (len_scn rs).2
    have a2 : (insOf (scn rs).1).length ≤ (scn rs).1.length := List.length_filterMap_le _ _
    omega
  have z : (1000 : Nat) ≤ sizeLine := by decide
  obtain ⟨ρ', μ', e1, x, y, cs, rfl, k1, f⟩ := yForL_inv (gd := gdT) (g := ygTup 2 (ygCons (ygSet 2) (ygCons (ygSet 3) ygNil))) (b := TB) (e := fun p => W.da (iD p)) (fun d ρ μ' => ∃ (x y : Option W) (cs : List Nat), ρ = [some (.da (rowsD rs)), some (.rf μ.length), x, y] ∧ LLs μ' μ.length cs (trn d) ∧ (∀ n c, n < μ.length → μ2[n]? = some c → μ'[n]? = some c) ∧ (∀ c ∈ cs, μ.length ≤ c) ∧ μ2.length ≤ μ'.length) (l := insOf (scn rs).1) (done := []) (ρ := [some (.da (rowsD rs)), some (.rf μ.length), none, none]) (μ := μ2)
    ⟨none, none, [], rfl, ⟨g2, fun p hp => by simp at hp, rfl, by simp, by simp⟩, fun _ _ _ e => e, (fun c hc => by cases hc), Nat.le_refl _⟩ (fun d p ρ μ3 hI ⟨q, hq⟩ => by
    obtain ⟨x, y, cs, rfl, k1, f, hc, f2⟩ := hI
    rw [List.nil_append] at hq
    have hd : d.length < 900 := by
      have := congrArg List.length hq
      simp only [List.length_append, List.length_cons] at this
      omega
    obtain ⟨b1, b2⟩ := trn_len d
    obtain ⟨μ4, cs', s1, s2, s3, s4⟩ := tb_run (d0 := rowsD rs) (p := p) k1 (fun hp => hi d p q hq hp) (by omega) (fun l hl => by have := b2 l hl; omega)
    refine ⟨[some (.da (rowsD rs)), some (.rf μ.length), some (iW p.1), some (.da (innD p.2))], _, μ4, rfl, s1, rfl, _, _, cs', rfl, by rw [trn_snoc]; exact s2, fun n c hn e => s3.at_ n c (fun z => ?_) (f n c hn e), fun c hc' => ?_, Nat.le_trans f2 s3.len⟩
    · rcases List.mem_cons.mp z with z | z
      · omega
      · have := hc n z; omega
    · rcases s4 c hc' with z | z
      · exact hc c z
      · omega)
  obtain ⟨f1, f2, f3⟩ := f
  rw [List.nil_append] at k1
  refine ⟨μ', μ.length, cs, ?_, k1, ⟨fun n c _ e => ?_, by omega⟩⟩
  · refine runY_rt rfl ?_
    unfold m_turns
    show ySeq _ _ [some (.da (rowsD rs)), none, none, none] μ = _
    have nl : yLstC yNil [some (.da (rowsD rs)), none, none, none] μ = some (.rf μ.length, μ1) := by
      show (if ([] : List W).length ≤ sizeLine then some (W.rf μ.length, μ ++ [Cell.lst []]) else none) = _
      exact if_pos (Nat.zero_le _)
    refine (ySeq_nx (yAsg_of (ρ1 := [some (.da (rowsD rs)), some (.rf μ.length), none, none]) nl rfl)).trans ?_
    refine (ySeq_nx (a := yFor (yItL (yCall G_inside (yCons (yVar 0) yNil))) (ygTup 2 (ygCons (ygSet 2) (ygCons (ygSet 3) ygNil))) TB) (ρ1 := [some (.da (rowsD rs)), some (.rf μ.length), x, y]) (μ1 := μ') ?_).trans rfl
    unfold yFor
    have it : yItL (yCall G_inside (yCons (yVar 0) yNil)) [some (.da (rowsD rs)), some (.rf μ.length), none, none] μ1 = some (((insOf (scn rs).1).map fun p => W.da (iD p), gdT), μ2) := by
      unfold yItL
      rw [yCall_of (ws := [.da (rowsD rs)]) (μ1 := μ1) rfl i1, Option.bind_some]
      show some ((((insOf (scn rs).1).map iD).map W.da, gdT), μ2) = _
      rw [List.map_map]; rfl
    rw [it, Option.bind_some]
    exact e1
  · have hn := (List.getElem?_eq_some_iff.mp e).1
    exact f1 n c hn (i2.at_ n c (by simp) (get_app e))
def sn (n : Int) : Str := Str.ofString (toString n)
theorem sn_len : ∀ n : Nat, n < 64 → (sn (n : Int)).length ≤ 4 ∧ ((n : Int).natAbs.log2 < 1920) := by decide +kernel
theorem app_len (a b : Str) : (a ++ b).length = a.length + b.length := by
  show (a.cps ++ b.cps).size = _
  rw [Array.size_append]; rfl
theorem app_assoc (a b c : Str) : a ++ b ++ c = a ++ (b ++ c) := by
  show (⟨a.cps ++ b.cps ++ c.cps⟩ : Str) = ⟨a.cps ++ (b.cps ++ c.cps)⟩
  rw [Array.append_assoc]
theorem emp_app (a : Str) : Str.empty ++ a = a := by
  show (⟨#[] ++ a.cps⟩ : Str) = a
  rw [Array.empty_append]
theorem rep_len (d : Nat) : (repS ("  " : Str) (d : Int)).length = 2 * d := by
  have e := rep_size ((d : Int)).toNat ("  " : Str).cps #[]
  show ((List.replicate ((d : Int)).toNat ("  " : Str).cps).foldl (fun a b => a ++ b) #[]).size = _
  rw [e, Int.toNat_natCast, show ("  " : Str).cps.size = 2 by decide +kernel, show (#[] : Array Nat).size = 0 from rfl]
  omega
def txR : Sc → Str
  | (.beg n _ w, d, _) => repS ("  " : Str) (d : Int) ++ (sn n ++ (" " : Str) ++ w)
  | (.cal _ w, d, _) => repS ("  " : Str) (d : Int) ++ (("- " : Str) ++ w)
  | _ => Str.empty
def okT (ws : List Str) : Row → Prop
  | .beg n _ w => ∃ k : Nat, n = (k : Int) ∧ k < 64 ∧ ws[k]? = some w ∧ w.length ≤ 100
  | .cal _ w => w.length ≤ 100
  | _ => True
def evD (ws : List Str) : D := .list (ws.map fun w => PyData.tuple [.str w, .none, .str "wait", .int 0])
theorem told_mem (rs : List Row) : ∀ s ∈ (scn rs).1, isC s.1 = true ∧ s.1 ∈ rs ∧ s.2.1 ≤ rs.length := by
  have key : ∀ (rs : List Row) (t : List Sc × List Int) (m : Nat), t.2.length ≤ m → ∀ s ∈ (rs.foldl stepS t).1, s ∈ t.1 ∨ (isC s.1 = true ∧ s.1 ∈ rs ∧ s.2.1 ≤ m + rs.length) := by
    intro rs
    induction rs with
    | nil => intro t m _ s hs; exact .inl hs
    | cons r rs ih =>
      intro t m hm s hs
      have h1 : (stepS t r).2.length ≤ m + 1 := by
        show (arS t.2 r).length ≤ _
        cases r <;> simp [arS] <;> omega
      rcases ih (stepS t r) (m + 1) h1 s hs with h | ⟨a, b, c⟩
      · rcases List.mem_append.mp h with h | h
        · exact .inl h
        · right
          unfold toldS at h
          split at h
          · rename_i hc
            rw [List.mem_singleton.mp h]
            exact ⟨hc, List.mem_cons_self, by show t.2.length ≤ _; omega⟩
          · cases h
      · exact .inr ⟨a, List.mem_cons_of_mem _ b, by rw [List.length_cons]; omega⟩
  intro s hs
  rcases key rs ([], []) 0 (Nat.le_refl _) s hs with h | h
  · cases h
  · simpa using h
theorem zl : (1000 : Nat) ≤ sizeLine := by decide
theorem fmt_s {a : Pd.M D} {ρ : Fr} {y : Str} (h : a ρ = some (.str y)) (hl : y.length ≤ 100) : m1 dFmt a ρ = some (.str y) :=
  m1_eq h (by show (if y.length ≤ sizeLine then some (PyData.str y) else none) = _; exact if_pos (by have := zl; omega))
theorem fmt_i {a : Pd.M D} {ρ : Fr} {k : Nat} (h : a ρ = some (.int (k : Int))) (hk : k < 64) : m1 dFmt a ρ = some (.str (sn (k : Int))) :=
  m1_eq h (by show (if ((k : Int)).natAbs.log2 < 1920 then some (PyData.str (Str.ofString (toString (k : Int)))) else none) = _; exact if_pos (sn_len k hk).2)
theorem js_cons {m : Pd.M D} {ms : List (Pd.M D)} {acc y out : Str} {ρ : Fr} (h : m ρ = some (.str y)) (hz : (acc ++ y).length ≤ 1000) (r : mJs ms (acc ++ y) ρ = some out) : mJs (m :: ms) acc ρ = some out := by
  show ((m ρ).bind fun d => match d with | .str y => if (acc ++ y).length ≤ sizeLine then mJs ms (acc ++ y) ρ else none | _ => none) = _
  rw [h, Option.bind_some]
  show (if (acc ++ y).length ≤ sizeLine then mJs ms (acc ++ y) ρ else none) = _
  rw [if_pos (Nat.le_trans hz zl), r]
def shM : Pd.M D := (mIf (mB (m2 dEq (m2 dIx (mVar 3) (mC (.int 0))) (mC (.str "begin")))) (mFstr [m1 dFmt (m2 dIx (mVar 3) (mC (.int 1))), mC (.str " "), m1 dFmt (m2 dIx (m2 dIx (mVar 1) (m2 dIx (mVar 3) (mC (.int 1)))) (mC (.int 0)))]) (mFstr [mC (.str "- "), m1 dFmt (m2 dIx (mVar 3) (mC (.int 2)))]))
def shS : Row → Str
  | .beg n _ w => sn n ++ (" " : Str) ++ w
  | .cal _ w => ("- " : Str) ++ w
  | _ => Str.empty
theorem sp_len : (" " : Str).length = 1 ∧ ("- " : Str).length = 2 := by decide +kernel
theorem sh_run {ws : List Str} {d0 : D} {r : Row} {e2 e4 e5 e6 : Ent} (hc : isC r = true) (hr : okR_ r) (ht : okT ws r) : shM [.va d0, .va (evD ws), e2, .va (rowD r), e4, e5, e6] = some (.str (shS r)) ∧ (shS r).length ≤ 200 := by
  obtain ⟨z1, z2⟩ := sp_len
  have v3 : mVar 3 [.va d0, .va (evD ws), e2, .va (rowD r), e4, e5, e6] = some (rowD r) := rfl
  have te : mB (m2 dEq (m2 dIx (mVar 3) (mC (.int 0))) (mC (.str "begin"))) [.va d0, .va (evD ws), e2, .va (rowD r), e4, e5, e6] = some (isB r) := mB_eq (m2_eq (m2_eq v3 rfl (ix0 r)) rfl (hd_b r hr))
  unfold shM mIf
  cases r with
  | beg n x w =>
    obtain ⟨k, rfl, hk, hw, wl⟩ := ht
    obtain ⟨s1, s2⟩ := sn_len k hk
    rw [te, Option.bind_some]
    simp only [isB, if_true]
    have i1 : m2 dIx (mVar 3) (mC (.int 1)) [.va d0, .va (evD ws), e2, .va (rowD (.beg (k : Int) x w)), e4, e5, e6] = some (.int (k : Int)) := m2_eq v3 rfl rfl
    have i2 : m2 dIx (m2 dIx (mVar 1) (m2 dIx (mVar 3) (mC (.int 1)))) (mC (.int 0)) [.va d0, .va (evD ws), e2, .va (rowD (.beg (k : Int) x w)), e4, e5, e6] = some (.str w) := by
      refine m2_eq (x := .tuple [.str w, .none, .str "wait", .int 0]) (m2_eq (x := evD ws) rfl i1 ?_) rfl rfl
      show atI (ws.map fun w => PyData.tuple [.str w, .none, .str "wait", .int 0]) (k : Int) = _
      obtain ⟨hl, _⟩ := List.getElem?_eq_some_iff.mp hw
      rw [atI_in (by omega) (by simpa using hl), List.getElem?_map, Int.toNat_natCast, hw]
      rfl
    have ln : ∀ a b : Str, (a ++ b).length = a.length + b.length := app_len
    have e0 : Str.empty.length = 0 := rfl
    constructor
    · unfold mFstr
      rw [js_cons (y := sn (k : Int)) (fmt_i i1 hk) (by rw [ln, e0]; omega) (js_cons (y := (" " : Str)) rfl (by rw [ln, ln, e0, z1]; omega) (js_cons (y := w) (fmt_s i2 wl) (by rw [ln, ln, ln, e0, z1]; omega) rfl)), Option.map_some, emp_app]
      rfl
    · show (sn (k : Int) ++ (" " : Str) ++ w).length ≤ 200
      rw [ln, ln, z1]; omega
  | cal n w =>
    have wl : w.length ≤ 100 := ht
    rw [te, Option.bind_some]
    simp only [isB, Bool.false_eq_true, if_false]
    have i1 : m2 dIx (mVar 3) (mC (.int 2)) [.va d0, .va (evD ws), e2, .va (rowD (.cal n w)), e4, e5, e6] = some (.str w) := m2_eq v3 rfl rfl
    have ln : ∀ a b : Str, (a ++ b).length = a.length + b.length := app_len
    have e0 : Str.empty.length = 0 := rfl
    constructor
    · unfold mFstr
      rw [js_cons (y := ("- " : Str)) rfl (by rw [ln, e0, z2]; omega) (js_cons (y := w) (fmt_s i1 wl) (by rw [ln, ln, e0, z2]; omega) rfl), Option.map_some, emp_app]
      rfl
    · show (("- " : Str) ++ w).length ≤ 200
      rw [ln, z2]; omega
  | fin => cases hc
  | oth => cases hc
def txS (s : Sc) : Str := repS ("  " : Str) (s.2.1 : Int) ++ shS s.1
def DB : YM YO := (ySeq (yAsg (yP shM) (ygSet 6))
  (yDrop (yMC fApp (yVar 2) (yCons (yP (m2 dAdd (m2 dMulS (mC (.str "  ")) (mVar 4)) (mVar 6))) yNil))))
theorem two_len : ("  " : Str).length = 2 := by decide +kernel
theorem mul_run {d : Nat} (hd : d ≤ 100) : dMulS (.str ("  " : Str)) (.int (d : Int)) = some (.str (repS ("  " : Str) (d : Int))) := by
  show (if 0 ≤ (d : Int) ∧ (d : Int) ≤ 1000 ∧ 0 < ("  " : Str).length ∧ ("  " : Str).length ≤ 1000 then some (PyData.str (repS ("  " : Str) (d : Int))) else none) = _
  exact if_pos ⟨by omega, by omega, by rw [two_len]; omega, by rw [two_len]; omega⟩
theorem add_run {a b : Str} (h : a.length + b.length ≤ 1000) : dAdd (.str a) (.str b) = some (.str (a ++ b)) := by
  show (if a.length + b.length ≤ sizeLine then some (PyData.str (a ++ b)) else none) = _
  exact if_pos (Nat.le_trans h zl)
theorem drawn_run {rs : List Row} {ws : List Str} {μ : Sto} (h : WF rs) (hl : rs.length ≤ 100) (ht : ∀ r ∈ rs, okT ws r) : ∃ μ', G_drawn [.da (rowsD rs), .da (evD ws)] μ = some (.da (.list ((scn rs).1.map fun s => .str (txS s))), μ') ∧ Fra [] μ μ' := by
  let μ1 := μ ++ [Cell.lst []]
  have g1 : μ1[μ.length]? = some (.lst []) := by
    show (μ ++ [Cell.lst []])[μ.length]? = _
    rw [List.getElem?_append_right (Nat.le_refl _), Nat.sub_self]; rfl
  obtain ⟨μ2, i1, i2⟩ := scenes_run (μ := μ1) h (by omega)
  have g2 := i2.at_ _ _ (by simp) g1
  have l2 : μ.length < μ2.length := (List.getElem?_eq_some_iff.mp g2).1
  have sl := (len_scn rs).2
  obtain ⟨ρ', μ', e1, x3, x4, x5, x6, rfl, k1, f⟩ := yForL_inv (gd := gdT) (g := ygTup 3 (ygCons (ygSet 3) (ygCons (ygSet 4) (ygCons (ygSet 5) ygNil)))) (b := DB) (e := sW) (fun d ρ μ' => ∃ (x3 x4 x5 x6 : Option W), ρ = [some (.da (rowsD rs)), some (.da (evD ws)), some (.rf μ.length), x3, x4, x5, x6] ∧ μ'[μ.length]? = some (.lst (d.map fun s => W.da (.str (txS s)))) ∧ Fra [μ.length] μ2 μ') (l := (scn rs).1) (done := []) (ρ := [some (.da (rowsD rs)), some (.da (evD ws)), some (.rf μ.length), none, none, none, none]) (μ := μ2)
    ⟨none, none, none, none, rfl, g2, .refl _ _⟩ (fun d s ρ μ3 hI ⟨q, hq⟩ => by
    obtain ⟨x3, x4, x5, x6, rfl, k1, f⟩ := hI
    rw [List.nil_append] at hq
    have hd : d.length < 100 := by
      have := congrArg List.length hq
      simp only [List.length_append, List.length_cons] at this
      omega
    obtain ⟨m1, m2', m3⟩ := told_mem rs s (by rw [hq]; simp)
    obtain ⟨s1, s2⟩ := sh_run (ws := ws) (d0 := rowsD rs) (e2 := .no) (e4 := .va (.int (s.2.1 : Int))) (e5 := .va (innD s.2.2)) (e6 := toP [x6] |>.getD 0 .no) m1 (h.ok _ m2') (ht _ m2')
    have hz : (d.map fun s => W.da (.str (txS s))).length < sizeLine := by rw [List.length_map]; have := zl; omega
    refine ⟨[some (.da (rowsD rs)), some (.da (evD ws)), some (.rf μ.length), some (.da (rowD s.1)), some (.da (.int (s.2.1 : Int))), some (.da (innD s.2.2)), x6], [some (.da (rowsD rs)), some (.da (evD ws)), some (.rf μ.length), some (.da (rowD s.1)), some (.da (.int (s.2.1 : Int))), some (.da (innD s.2.2)), some (.da (.str (shS s.1)))], μ3.set μ.length (.lst ((d ++ [s]).map fun s => W.da (.str (txS s)))), rfl, ?_, rfl, _, _, _, _, rfl, set_at k1, f.trans (.set (by simp))⟩
    unfold DB
    refine (ySeq_nx (yAsg_of (w := .da (.str (shS s.1))) (μ1 := μ3) (ρ1 := [some (.da (rowsD rs)), some (.da (evD ws)), some (.rf μ.length), some (.da (rowD s.1)), some (.da (.int (s.2.1 : Int))), some (.da (innD s.2.2)), some (.da (.str (shS s.1)))]) ?_ rfl)).trans ?_
    · unfold yP
      have tp : toP [some (W.da (rowsD rs)), some (.da (evD ws)), some (.rf μ.length), some (.da (rowD s.1)), some (.da (.int (s.2.1 : Int))), some (.da (innD s.2.2)), x6] = [.va (rowsD rs), .va (evD ws), .no, .va (rowD s.1), .va (.int (s.2.1 : Int)), .va (innD s.2.2), toP [x6] |>.getD 0 .no] := rfl
      rw [tp, s1]
      rfl
    · have ev : yP (m2 dAdd (m2 dMulS (mC (.str "  ")) (mVar 4)) (mVar 6)) [some (.da (rowsD rs)), some (.da (evD ws)), some (.rf μ.length), some (.da (rowD s.1)), some (.da (.int (s.2.1 : Int))), some (.da (innD s.2.2)), some (.da (.str (shS s.1)))] μ3 = some (.da (.str (txS s)), μ3) := by
        unfold yP
        have hd1 : s.2.1 ≤ 100 := by omega
        rw [m2_eq (m2_eq (y := .int (s.2.1 : Int)) rfl rfl (mul_run hd1)) (show mVar 6 _ = some (PyData.str (shS s.1)) from rfl) (add_run (by rw [rep_len]; omega))]
        rfl
      refine yDrop_of (w := .da .none) (yMC_of (n := μ.length) (ws := d.map fun s => W.da (.str (txS s))) (us := [.da (.str (txS s))]) rfl ⟨_, k1⟩ (yCons_of ev rfl) k1 ?_)
      show (if (d.map fun s => W.da (.str (txS s))).length < sizeLine then some (W.da .none, (d.map fun s => W.da (.str (txS s))) ++ [W.da (.str (txS s))]) else none) = _
      rw [if_pos hz, List.map_append]; rfl)
  rw [List.nil_append] at k1
  refine ⟨μ'.set μ.length .gone, ?_, ⟨fun n c _ e => ?_, ?_⟩⟩
  · refine runY_rt rfl ?_
    unfold m_drawn
    show ySeq _ _ [some (.da (rowsD rs)), some (.da (evD ws)), none, none, none, none, none] μ = _
    have nl : yLstC yNil [some (.da (rowsD rs)), some (.da (evD ws)), none, none, none, none, none] μ = some (.rf μ.length, μ1) := by
      show (if ([] : List W).length ≤ sizeLine then some (W.rf μ.length, μ ++ [Cell.lst []]) else none) = _
      exact if_pos (Nat.zero_le _)
    refine (ySeq_nx (yAsg_of (ρ1 := [some (.da (rowsD rs)), some (.da (evD ws)), some (.rf μ.length), none, none, none, none]) nl rfl)).trans ?_
    refine (ySeq_nx (a := yFor (yItL (yCall G_scenes (yCons (yVar 0) yNil))) (ygTup 3 (ygCons (ygSet 3) (ygCons (ygSet 4) (ygCons (ygSet 5) ygNil)))) DB) (ρ1 := [some (.da (rowsD rs)), some (.da (evD ws)), some (.rf μ.length), x3, x4, x5, x6]) (μ1 := μ') ?_).trans ?_
    · unfold yFor
      have it : yItL (yCall G_scenes (yCons (yVar 0) yNil)) [some (.da (rowsD rs)), some (.da (evD ws)), some (.rf μ.length), none, none, none, none] μ1 = some (((scn rs).1.map sW, gdT), μ2) := by
        unfold yItL
        rw [yCall_of (ws := [.da (rowsD rs)]) (μ1 := μ1) rfl i1, Option.bind_some]
        show some ((((scn rs).1.map sD).map W.da, gdT), μ2) = _
        rw [List.map_map]; rfl
      rw [it, Option.bind_some]
      exact e1
    · refine yRet_of ?_
      unfold yFrz
      show ((some (W.rf μ.length, μ')).bind _) = _
      rw [Option.bind_some]
      have : ((scn rs).1.map fun s => W.da (.str (txS s))) = ((scn rs).1.map fun s => PyData.str (txS s)).map W.da := by rw [List.map_map]; rfl
      simp only [k1, this, allDa_map, Option.map_some]
  · have hn := (List.getElem?_eq_some_iff.mp e).1
    rw [List.getElem?_set_ne (by omega)]
    exact f.at_ n c (fun z => by have := List.mem_singleton.mp z; omega) (i2.at_ n c (by simp) (get_app e))
  · have := f.len
    have := i2.len
    simp only [List.length_set]
    omega
theorem strOk_of {x : Str} (h : ∀ c ∈ x.cps.toList, c < 1114112) : PyData.strOk x = true := by
  unfold PyData.strOk
  rw [← Array.all_toList, List.all_eq_true]
  intro c hc
  exact decide_eq_true (h c hc)
theorem strOk_app {a b : Str} (ha : PyData.strOk a = true) (hb : PyData.strOk b = true) : PyData.strOk (a ++ b) = true := by
  unfold PyData.strOk at *
  show (a.cps ++ b.cps).all _ = true
  rw [Array.all_append, ha, hb]; rfl
theorem strOk_rep : ∀ d : Nat, PyData.strOk (repS ("  " : Str) (d : Int)) = true := by
  intro d
  have key : ∀ (m : Nat) (acc : Array Nat), acc.all (fun x => decide (x < 1114112)) = true → ((List.replicate m ("  " : Str).cps).foldl (fun a b => a ++ b) acc).all (fun x => decide (x < 1114112)) = true := by
    intro m
    induction m with
    | zero => intro acc h; exact h
    | succ m ih =>
      intro acc h
      rw [List.replicate_succ, List.foldl_cons]
      refine ih _ ?_
      rw [Array.all_append, h]
      have : ("  " : Str).cps.all (fun x => decide (x < 1114112)) = true := by decide +kernel
      rw [this]; rfl
  exact key ((d : Int)).toNat #[] (by simp)
theorem sn_ok : ∀ n : Nat, n < 64 → PyData.strOk (sn (n : Int)) = true := by decide +kernel
def wordC (c : Int) (k : Nat) : Nat := 97 + ((c + 7 * (k : Int) * (1 + c / 26 % 5)) % 26).toNat
theorem word_run (c : Int) : ∃ w : Str, G_law_word_by [.int c] = some (.str w) ∧ w.length ≤ 12 ∧ PyData.strOk w = true := by
  have h0 : 0 ≤ c / 130 % 12 := Int.emod_nonneg _ (by decide)
  have h1 : c / 130 % 12 < 12 := Int.emod_lt_of_pos _ (by decide)
  have g0 : 0 ≤ c / 26 % 5 := Int.emod_nonneg _ (by decide)
  have g1 : c / 26 % 5 < 5 := Int.emod_lt_of_pos _ (by decide)
  let n := (1 + c / 130 % 12).toNat
  have en : ((n : Nat) : Int) = 1 + c / 130 % 12 := Int.toNat_of_nonneg (by omega)
  have nl : n ≤ 12 := by omega
  let cs : List Nat := (List.range n).map (wordC c)
  have csl : cs.length = n := by simp [cs]
  have tcs : (Txt.join (Str.ofString "") (cs.map one)).cps.toList = cs := join_one cs
  have wl : (Txt.join (Str.ofString "") (cs.map one)).length = n := by
    show (Txt.join (Str.ofString "") (cs.map one)).cps.size = _
    rw [← Array.length_toList, tcs, csl]
  refine ⟨Txt.join (Str.ofString "") (cs.map one), ?_, by omega, strOk_of fun x hx => ?_⟩
  · refine run_rt rfl ?_
    unfold m_law_word_by
    show mSeq _ _ [.va (.int c), .no, .no] = _
    refine (mSeq_nx (ρ1 := [.va (.int c), .va (.str Ltr), .no]) rfl).trans ?_
    have z130 : (0 : Int) < 130 ∧ (130 : Int) < 1073741824 := by decide
    have z26 : (0 : Int) < 26 ∧ (26 : Int) < 1073741824 := by decide
    have hi : mRng1 (m2 dAdd (mC (.int 1)) (m2 dMod (m2 dFdiv (mVar 0) (mC (.int 130))) (mC (.int 12)))) [.va (.int c), .va (.str Ltr), .no] = some ((List.range n).map jD) := by
      rw [rng1_of (n := n) (by omega) (by
        rw [en]
        exact m2_eq rfl (m2_eq (m2_eq (x := .int c) rfl rfl (dFdiv_pos z130)) rfl (dMod_pos (by decide))) rfl), rng_all]
    have lc := mLc_map (vs := [2]) (g := gSet 2) (mt := mYes) (me := m2 dIx (mVar 1) (m2 dMod (m2 dAdd (mVar 0) (m2 dMul (m2 dMul (mC (.int 7)) (mVar 2)) (m2 dAdd (mC (.int 1)) (m2 dMod (m2 dFdiv (mVar 0) (mC (.int 26))) (mC (.int 5)))))) (mC (.int 26)))) (e := jD) (o := fun k => PyData.str (one (wordC c k))) hi (by rw [List.length_range]; exact Nat.le_trans nl (by decide)) (fun k _ => by
      have ej : jD k = .int (k : Int) := by simp [jD]
      have st : gSet 2 (jD k) (wipeF [.va (.int c), .va (.str Ltr), .no] [2]) = some [.va (.int c), .va (.str Ltr), .va (.int (k : Int))] := by rw [ej]; rfl
      have v0 : mVar 0 [.va (.int c), .va (.str Ltr), .va (.int (k : Int))] = some (.int c) := rfl
      have v2 : mVar 2 [.va (.int c), .va (.str Ltr), .va (.int (k : Int))] = some (.int (k : Int)) := rfl
      have lt := letter ((c + 7 * (k : Int) * (1 + c / 26 % 5)) % 26) (Int.emod_nonneg _ (by decide)) (Int.emod_lt_of_pos _ (by decide))
      have e : m2 dIx (mVar 1) (m2 dMod (m2 dAdd (mVar 0) (m2 dMul (m2 dMul (mC (.int 7)) (mVar 2)) (m2 dAdd (mC (.int 1)) (m2 dMod (m2 dFdiv (mVar 0) (mC (.int 26))) (mC (.int 5)))))) (mC (.int 26))) [.va (.int c), .va (.str Ltr), .va (.int (k : Int))] = some (.str (one (wordC c k))) :=
        m2_eq (x := .str Ltr) rfl (m2_eq (m2_eq v0 (m2_eq (m2_eq rfl v2 (dMul_l (by decide))) (m2_eq rfl (m2_eq (m2_eq v0 rfl (dFdiv_pos z26)) rfl (dMod_pos (by decide))) rfl) (dMul_r (small_of (by omega) (by omega)))) rfl) rfl (dMod_pos (by decide))) lt
      unfold turnD
      rw [st, Option.bind_some]
      show ((some true).bind _) = _
      rw [Option.bind_some, if_pos rfl, e]
      rfl)
    refine mRet_eq (m2_eq rfl (mL_eq lc) ?_)
    have e2 : (List.range n).map (fun k => PyData.str (one (wordC c k))) = (cs.map one).map PyData.str := by simp [cs]
    rw [e2]
    show ((asStrs ((cs.map one).map PyData.str)).bind fun ys => if (ys.map (·.length)).sum + ys.length * (Str.ofString "").length ≤ 16777216 then some (PyData.str (Txt.join (Str.ofString "") ys)) else none) = _
    have ez : (Str.ofString "").length = 0 := by decide +kernel
    rw [asStrs_of, Option.bind_some, if_pos (by rw [sum_one, ez, csl]; omega)]
  · rw [tcs] at hx
    obtain ⟨k, _, rfl⟩ := List.mem_map.mp hx
    have : (c + 7 * (k : Int) * (1 + c / 26 % 5)) % 26 < 26 := Int.emod_lt_of_pos _ (by decide)
    unfold wordC
    omega
def ownK : List (Key × W) := [(.inr "around", .rf 1), (.inr "events", .rf 2), (.inr "begun", .rf 3), (.inr "inside", .rf 4), (.inr "turns", .rf 5), (.inr "drawn", .rf 6)]
theorem gv_cons {k j : Key} {w : W} {r : List (Key × W)} : gVal ((k, w) :: r) j = if k = j then some w else gVal r j := by
  unfold gVal
  rw [List.find?_cons]
  by_cases h : k = j
  · simp [h]
  · simp [h]
theorem inr_ne {a b : Str} (h : a ≠ b) : (Sum.inr a : Key) ≠ Sum.inr b := fun z => h (Sum.inr.inj z)
theorem own1 : gVal ownK (.inr "around") = some (.rf 1) := by unfold ownK; rw [gv_cons, if_pos rfl]
theorem own2 : gVal ownK (.inr "events") = some (.rf 2) := by unfold ownK; rw [gv_cons, if_neg (inr_ne (by decide +kernel)), gv_cons, if_pos rfl]
theorem own3 : gVal ownK (.inr "begun") = some (.rf 3) := by unfold ownK; rw [gv_cons, if_neg (inr_ne (by decide +kernel)), gv_cons, if_neg (inr_ne (by decide +kernel)), gv_cons, if_pos rfl]
theorem own4 : gVal ownK (.inr "inside") = some (.rf 4) := by unfold ownK; rw [gv_cons, if_neg (inr_ne (by decide +kernel)), gv_cons, if_neg (inr_ne (by decide +kernel)), gv_cons, if_neg (inr_ne (by decide +kernel)), gv_cons, if_pos rfl]
theorem own5 : gVal ownK (.inr "turns") = some (.rf 5) := by unfold ownK; rw [gv_cons, if_neg (inr_ne (by decide +kernel)), gv_cons, if_neg (inr_ne (by decide +kernel)), gv_cons, if_neg (inr_ne (by decide +kernel)), gv_cons, if_neg (inr_ne (by decide +kernel)), gv_cons, if_pos rfl]
theorem own6 : gVal ownK (.inr "drawn") = some (.rf 6) := by unfold ownK; rw [gv_cons, if_neg (inr_ne (by decide +kernel)), gv_cons, if_neg (inr_ne (by decide +kernel)), gv_cons, if_neg (inr_ne (by decide +kernel)), gv_cons, if_neg (inr_ne (by decide +kernel)), gv_cons, if_neg (inr_ne (by decide +kernel)), gv_cons, if_pos rfl]
structure CS (μ : Sto) (A : List Int) (E : List W) (B : List Int) (I : List W) (tl : List (List Int)) (Dw : List W) : Prop where
  o : μ[0]? = some (.dct ownK)
  a : μ[1]? = some (.lst (A.map iW))
  e : μ[2]? = some (.lst E)
  b : μ[3]? = some (.lst (B.map iW))
  i : μ[4]? = some (.lst I)
  t : ∃ cs, LLs μ 5 cs tl ∧ ∀ c ∈ cs, 6 < c
  d : μ[6]? = some (.lst Dw)
theorem LLs.keep {μ : Sto} {t n : Nat} {cs : List Nat} {tl : List (List Int)} {x : Cell} (h : LLs μ t cs tl) (h1 : n ≠ t) (h2 : n ∉ cs) : LLs (μ.set n x) t cs tl :=
  ⟨by rw [List.getElem?_set_ne h1]; exact h.at_, fun p hp => by
    rw [List.getElem?_set_ne (fun z => h2 (by rw [z]; exact (List.of_mem_zip hp).1))]; exact h.each p hp, h.len, h.nd, h.nt⟩
section
variable {μ : Sto} {A : List Int} {E : List W} {B : List Int} {I : List W} {tl : List (List Int)} {Dw : List W}
theorem CS.keepT {n : Nat} {x : Cell} (h : CS μ A E B I tl Dw) (hn : n < 5 ∨ n = 6) : ∃ cs, LLs (μ.set n x) 5 cs tl ∧ ∀ c ∈ cs, 6 < c := by
  obtain ⟨cs, h1, h2⟩ := h.t
  exact ⟨cs, h1.keep (by omega) (fun z => by have := h2 n z; omega), h2⟩
theorem CS.setA (h : CS μ A E B I tl Dw) (A' : List Int) : CS (μ.set 1 (.lst (A'.map iW))) A' E B I tl Dw :=
  ⟨by rw [List.getElem?_set_ne (by decide)]; exact h.o, set_at h.a, by rw [List.getElem?_set_ne (by decide)]; exact h.e, by rw [List.getElem?_set_ne (by decide)]; exact h.b, by rw [List.getElem?_set_ne (by decide)]; exact h.i, h.keepT (.inl (by decide)), by rw [List.getElem?_set_ne (by decide)]; exact h.d⟩
theorem CS.setE (h : CS μ A E B I tl Dw) (E' : List W) : CS (μ.set 2 (.lst E')) A E' B I tl Dw :=
  ⟨by rw [List.getElem?_set_ne (by decide)]; exact h.o, by rw [List.getElem?_set_ne (by decide)]; exact h.a, set_at h.e, by rw [List.getElem?_set_ne (by decide)]; exact h.b, by rw [List.getElem?_set_ne (by decide)]; exact h.i, h.keepT (.inl (by decide)), by rw [List.getElem?_set_ne (by decide)]; exact h.d⟩
theorem CS.setB (h : CS μ A E B I tl Dw) (B' : List Int) : CS (μ.set 3 (.lst (B'.map iW))) A E B' I tl Dw :=
  ⟨by rw [List.getElem?_set_ne (by decide)]; exact h.o, by rw [List.getElem?_set_ne (by decide)]; exact h.a, by rw [List.getElem?_set_ne (by decide)]; exact h.e, set_at h.b, by rw [List.getElem?_set_ne (by decide)]; exact h.i, h.keepT (.inl (by decide)), by rw [List.getElem?_set_ne (by decide)]; exact h.d⟩
theorem CS.setI (h : CS μ A E B I tl Dw) (I' : List W) : CS (μ.set 4 (.lst I')) A E B I' tl Dw :=
  ⟨by rw [List.getElem?_set_ne (by decide)]; exact h.o, by rw [List.getElem?_set_ne (by decide)]; exact h.a, by rw [List.getElem?_set_ne (by decide)]; exact h.e, by rw [List.getElem?_set_ne (by decide)]; exact h.b, set_at h.i, h.keepT (.inl (by decide)), by rw [List.getElem?_set_ne (by decide)]; exact h.d⟩
theorem CS.setD (h : CS μ A E B I tl Dw) (D' : List W) : CS (μ.set 6 (.lst D')) A E B I tl D' :=
  ⟨by rw [List.getElem?_set_ne (by decide)]; exact h.o, by rw [List.getElem?_set_ne (by decide)]; exact h.a, by rw [List.getElem?_set_ne (by decide)]; exact h.e, by rw [List.getElem?_set_ne (by decide)]; exact h.b, by rw [List.getElem?_set_ne (by decide)]; exact h.i, h.keepT (.inr rfl), set_at h.d⟩
def dg (s : Str) : YM W := yDget (yVar 0) (yP (mC (.str s)))
theorem dg_run {ρ : YF} {s : Str} {j : Nat} (h0 : ρ[0]? = some (some (.rf 0))) (h : CS μ A E B I tl Dw) (g : gVal ownK (.inr s) = some (.rf j)) : dg s ρ μ = some (.rf j, μ) := by
  unfold dg yDget yVar yP
  simp [h0, h.o, mC, Pd.keyOf, g]
theorem ap_run {ρ : YF} {s : Str} {j : Nat} {a : YM W} {w : W} {L : List W} (h0 : ρ[0]? = some (some (.rf 0))) (h : CS μ A E B I tl Dw) (g : gVal ownK (.inr s) = some (.rf j)) (hj : μ[j]? = some (.lst L)) (ha : a ρ μ = some (w, μ)) (hz : L.length < sizeLine) :
    yDrop (yMC fApp (dg s) (yCons a yNil)) ρ μ = some (.nx ρ, μ.set j (.lst (L ++ [w]))) := by
  refine yDrop_of (w := .da .none) (yMC_of (n := j) (ws := L) (us := [w]) (dg_run h0 h g) ⟨_, hj⟩ (yCons_of ha rfl) hj ?_)
  show (if L.length < sizeLine then some (W.da .none, L ++ [w]) else none) = _
  rw [if_pos hz]
/-- the turns: one more -/
theorem CS.turnN (h : CS μ A E B I tl Dw) (n : Int) : CS ((μ ++ [Cell.lst [iW n]]).set 5 (.lst (((h.t.choose).map W.rf) ++ [W.rf μ.length]))) A E B I (tl ++ [[n]]) Dw := by
  obtain ⟨h1, h2⟩ := h.t.choose_spec
  have l6 := (List.getElem?_eq_some_iff.mp h.d).1
  exact ⟨by rw [List.getElem?_set_ne (by decide)]; exact get_app h.o, by rw [List.getElem?_set_ne (by decide)]; exact get_app h.a, by rw [List.getElem?_set_ne (by decide)]; exact get_app h.e, by rw [List.getElem?_set_ne (by decide)]; exact get_app h.b, by rw [List.getElem?_set_ne (by decide)]; exact get_app h.i,
    ⟨_, h1.new n, fun c hc => by
      rcases List.mem_append.mp hc with hc | hc
      · exact h2 c hc
      · rw [List.mem_singleton.mp hc]; exact l6⟩, by rw [List.getElem?_set_ne (by decide)]; exact get_app h.d⟩
theorem turn_run {ρ : YF} {n : Int} (h0 : ρ[0]? = some (some (.rf 0))) (h5 : ρ[5]? = some (some (iW n))) (h : CS μ A E B I tl Dw) (hz : tl.length < sizeLine) : ∃ μ', yDrop (yMC fApp (dg "turns") (yCons (yLstC (yCons (yVar 5) yNil)) yNil)) ρ μ = some (.nx ρ, μ') ∧ CS μ' A E B I (tl ++ [[n]]) Dw := by
  obtain ⟨h1, h2⟩ := h.t.choose_spec
  refine ⟨_, ?_, h.turnN n⟩
  have ev : yLstC (yCons (yVar 5) yNil) ρ μ = some (.rf μ.length, μ ++ [.lst [iW n]]) := by
    have e5 : yVar 5 ρ μ = some (iW n, μ) := by unfold yVar; rw [h5]
    unfold yLstC
    rw [yCons_of e5 rfl, Option.bind_some]
    exact if_pos (show 1 ≤ sizeLine by decide)
  have hz' : ((h.t.choose).map W.rf).length < sizeLine := by rw [List.length_map, h1.len]; exact hz
  refine yDrop_of (w := .da .none) (yMC_of (n := 5) (ws := (h.t.choose).map W.rf) (us := [.rf μ.length]) (dg_run h0 h own5) ⟨_, h1.at_⟩ (yCons_of ev rfl) (get_app h1.at_) ?_)
  show (if ((h.t.choose).map W.rf).length < sizeLine then some (W.da .none, (h.t.choose).map W.rf ++ [W.rf μ.length]) else none) = _
  rw [if_pos hz']
theorem turnL_run {ρ : YF} {n : Int} {tl0 : List (List Int)} {l : List Int} (h0 : ρ[0]? = some (some (.rf 0))) (h5 : ρ[5]? = some (some (iW n))) (h : CS μ A E B I (tl0 ++ [l]) Dw) (hz : l.length < sizeLine) : ∃ μ', yDrop (yMC fApp (yIx (dg "turns") (yP (m1 dNeg (mC (.int 1))))) (yCons (yVar 5) yNil)) ρ μ = some (.nx ρ, μ') ∧ CS μ' A E B I (tl0 ++ [l ++ [n]]) Dw := by
  obtain ⟨cs, h1, h2⟩ := h.t
  have hcs : cs ≠ [] := fun z => by
    have := h1.len
    rw [z] at this
    simp at this
  obtain ⟨cs0, c, e2⟩ := snoc_of hcs
  subst e2
  have hl0 : cs0.length = tl0.length := by have := h1.len; simpa using this
  have hc := h1.each (c, l) (by rw [zip_app hl0]; simp)
  have c6 := h2 c (by simp)
  have e5 : yVar 5 ρ μ = some (iW n, μ) := by unfold yVar; rw [h5]
  have ev : yIx (dg "turns") (yP (m1 dNeg (mC (.int 1)))) ρ μ = some (.rf c, μ) := by
    have hx : atI ((cs0 ++ [c]).map W.rf) (-1) = some (.rf c) := atI_last (by rw [List.getLast?_map]; simp)
    have e2 : yP (m1 dNeg (mC (.int 1))) ρ μ = some (.da (.int (-1)), μ) := rfl
    unfold yIx
    rw [dg_run h0 h own5, Option.bind_some, e2, Option.bind_some]
    simp only [h1.at_, hx, Option.map_some]
  have hz' : (l.map iW).length < sizeLine := by rw [List.length_map]; exact hz
  refine ⟨μ.set c (.lst (l.map iW ++ [iW n])), ?_, ⟨by rw [List.getElem?_set_ne (by omega)]; exact h.o, by rw [List.getElem?_set_ne (by omega)]; exact h.a, by rw [List.getElem?_set_ne (by omega)]; exact h.e, by rw [List.getElem?_set_ne (by omega)]; exact h.b, by rw [List.getElem?_set_ne (by omega)]; exact h.i, ⟨_, h1.last n, h2⟩, by rw [List.getElem?_set_ne (by omega)]; exact h.d⟩⟩
  refine yDrop_of (w := .da .none) (yMC_of (n := c) (ws := l.map iW) (us := [iW n]) ev ⟨_, hc⟩ (yCons_of e5 rfl) hc ?_)
  show (if (l.map iW).length < sizeLine then some (W.da .none, l.map iW ++ [iW n]) else none) = _
  rw [if_pos hz']
end
def evW (w : Str) : W := .da (.tuple [.str w, .none, .str "wait", .int 0])
def iiW (p : Int × Option Int) : W := .da (iD p)
def tdW (s : Sc) : W := .da (.str (txS s))
structure RS (μ : Sto) (rs : List Row) (ws : List Str) : Prop where
  cs : CS μ (scn rs).2 (ws.map evW) (begOf rs) ((insOf (scn rs).1).map iiW) (trn (insOf (scn rs).1)) ((scn rs).1.map tdW)
  wf : WF rs
  wi : WFI (insOf (scn rs).1)
  ot : ∀ r ∈ rs, okT ws r
  wl : ws.length ≤ rs.length
  tz : (scn rs).2 ≠ [] → trn (insOf (scn rs).1) ≠ []
  wk : ∀ w ∈ ws, PyData.strOk w = true
  tk : ∀ s ∈ (scn rs).1, PyData.strOk (txS s) = true
  sh : ∀ r ∈ rs, (rowD r).canLay0 = true ∧ (rowD r).depth ≤ 10
def RF (c : Int) (o4 o5 o6 o7 o8 : Option W) : YF := [some (.rf 0), some (.da (.int c)), some (.rf 1), some (iW (c % 9)), o4, o5, o6, o7, o8]
section
variable {μ : Sto} {A : List Int} {E : List W} {B : List Int} {I : List W} {tl : List (List Int)} {Dw : List W} {c : Int} {o4 o5 o6 o7 o8 : Option W}
theorem last_run {x : Int} (h : CS μ A E B I tl Dw) (hx : A.getLast? = some x) : yIx (yVar 2) (yP (m1 dNeg (mC (.int 1)))) (RF c o4 o5 o6 o7 o8) μ = some (iW x, μ) := by
  have hx' : atI (A.map iW) (-1) = some (iW x) := atI_last (by rw [List.getLast?_map, hx]; rfl)
  have e2 : yP (m1 dNeg (mC (.int 1))) (RF c o4 o5 o6 o7 o8) μ = some (.da (.int (-1)), μ) := rfl
  unfold yIx
  show ((some (W.rf 1, μ)).bind _) = _
  rw [Option.bind_some, e2, Option.bind_some]
  simp only [h.a, hx', Option.map_some]
theorem len_run (h : CS μ A E B I tl Dw) : mA dLen (mCons (mVar 2) mNil) (toS μ (RF c o4 o5 o6 o7 o8)) = some (.int (A.length : Int)) := by
  have v2 : mVar 2 (toS μ (RF c o4 o5 o6 o7 o8)) = some (.list (A.map .int)) := by
    unfold mVar toS RF
    simp only [List.map_cons, List.getElem?_cons_succ, List.getElem?_cons_zero, dat_ints h.a]
  exact mA_eq (mCons_eq v2 rfl) (by show some (PyData.int ((A.map PyData.int).length : Int)) = _; rw [List.length_map])
theorem tru_run (h : CS μ A E B I tl Dw) : yTru (yVar 2) (RF c o4 o5 o6 o7 o8) μ = some (!A.isEmpty, μ) := by
  unfold yTru
  show ((some (W.rf 1, μ)).bind _) = _
  rw [Option.bind_some]
  simp only [h.a, Option.bind_some, cTru, Option.map_some]
  cases A <;> rfl
/-- the text of a begin -/
theorem tx1_run {k : Nat} {w : Str} (h : CS μ A E B I tl Dw) (hA : A.length ≤ 100) (hk : k < 64) (hw : w.length ≤ 100) (x : Int) (i : Option Int) : yS (m2 dAdd (m2 dAdd (m2 dAdd (m2 dMulS (mC (.str "  ")) (mA dLen (mCons (mVar 2) mNil))) (mA dStr (mCons (mVar 5) mNil))) (mC (.str " "))) (mVar 6)) (RF c o4 (some (iW (k : Int))) (some (.da (.str w))) o7 o8) μ = some (tdW (.beg (k : Int) x w, A.length, i), μ) := by
  obtain ⟨z1, z2⟩ := sp_len
  obtain ⟨s1, s2⟩ := sn_len k hk
  have v5 : mVar 5 (toS μ (RF c o4 (some (iW (k : Int))) (some (.da (.str w))) o7 o8)) = some (.int (k : Int)) := rfl
  have v6 : mVar 6 (toS μ (RF c o4 (some (iW (k : Int))) (some (.da (.str w))) o7 o8)) = some (.str w) := rfl
  have e5 : dStr [.int (k : Int)] = some (.str (sn (k : Int))) := by
    show (if ((k : Int)).natAbs.log2 < 1920 then some (PyData.str (Str.ofString (toString (k : Int)))) else none) = _
    exact if_pos s2
  have l1 := rep_len A.length
  have l2 := app_len (repS ("  " : Str) (A.length : Int)) (sn (k : Int))
  have l3 := app_len (repS ("  " : Str) (A.length : Int) ++ sn (k : Int)) (" " : Str)
  have e : m2 dAdd (m2 dAdd (m2 dAdd (m2 dMulS (mC (.str "  ")) (mA dLen (mCons (mVar 2) mNil))) (mA dStr (mCons (mVar 5) mNil))) (mC (.str " "))) (mVar 6) (toS μ (RF c o4 (some (iW (k : Int))) (some (.da (.str w))) o7 o8)) = some (.str (repS ("  " : Str) (A.length : Int) ++ sn (k : Int) ++ (" " : Str) ++ w)) :=
    m2_eq (m2_eq (m2_eq (m2_eq rfl (len_run h) (mul_run hA)) (mA_eq (mCons_eq v5 rfl) e5) (add_run (by omega))) rfl (add_run (by omega))) v6 (add_run (by omega))
  unfold yS
  have hh : ∀ s : Str, hard (.str s) = true := fun s => by simp [hard]
  rw [e, Option.bind_some, if_pos (hh _)]
  unfold tdW txS shS
  rw [app_assoc, app_assoc, ← app_assoc (sn (k : Int))]
theorem tx2_run {w : Str} (h : CS μ A E B I tl Dw) (hA : A.length ≤ 100) (hw : w.length ≤ 100) (x : Int) (i : Option Int) : yS (m2 dAdd (m2 dAdd (m2 dMulS (mC (.str "  ")) (mA dLen (mCons (mVar 2) mNil))) (mC (.str "- "))) (mVar 8)) (RF c o4 o5 o6 o7 (some (.da (.str w)))) μ = some (tdW (.cal x w, A.length, i), μ) := by
  obtain ⟨z1, z2⟩ := sp_len
  have v8 : mVar 8 (toS μ (RF c o4 o5 o6 o7 (some (.da (.str w))))) = some (.str w) := rfl
  have l1 := rep_len A.length
  have l2 := app_len (repS ("  " : Str) (A.length : Int)) ("- " : Str)
  have e : m2 dAdd (m2 dAdd (m2 dMulS (mC (.str "  ")) (mA dLen (mCons (mVar 2) mNil))) (mC (.str "- "))) (mVar 8) (toS μ (RF c o4 o5 o6 o7 (some (.da (.str w))))) = some (.str (repS ("  " : Str) (A.length : Int) ++ ("- " : Str) ++ w)) :=
    m2_eq (m2_eq (m2_eq rfl (len_run h) (mul_run hA)) rfl (add_run (by omega))) v8 (add_run (by omega))
  unfold yS
  have hh : ∀ s : Str, hard (.str s) = true := fun s => by simp [hard]
  rw [e, Option.bind_some, if_pos (hh _)]
  unfold tdW txS shS
  rw [app_assoc]
def BB : YM YO := (ySeq (yAsg (yLen (dg "events")) (ygSet 5))
  (ySeq (yAsg (yP (mA G_law_word_by (mCons (m2 dFdiv (mVar 1) (mC (.int 9))) mNil))) (ygSet 6))
  (ySeq (yDrop (yMC fApp (dg "events") (yCons (yP (mA dTup (mCons (mVar 6) (mCons (mC .none) (mCons (mC (.str "wait")) (mCons (mC (.int 0)) mNil)))))) yNil)))
  (ySeq (yDrop (yMC fApp (dg "begun") (yCons (yVar 5) yNil)))
  (ySeq (yAsg (yP (mC .none)) (ygSet 7))
  (ySeq (yIfS (yTru (yVar 2))
  (ySeq (yAsg (yIx (yVar 2) (yP (m1 dNeg (mC (.int 1))))) (ygSet 7))
  (yDrop (yMC fApp (yIx (dg "turns") (yP (m1 dNeg (mC (.int 1))))) (yCons (yVar 5) yNil))))
  (yDrop (yMC fApp (dg "turns") (yCons (yLstC (yCons (yVar 5) yNil)) yNil))))
  (ySeq (yDrop (yMC fApp (dg "inside") (yCons (yP (mA dTup (mCons (mVar 5) (mCons (mVar 7) mNil)))) yNil)))
  (ySeq (yDrop (yMC fApp (dg "drawn") (yCons (yS (m2 dAdd (m2 dAdd (m2 dAdd (m2 dMulS (mC (.str "  ")) (mA dLen (mCons (mVar 2) mNil))) (mA dStr (mCons (mVar 5) mNil))) (mC (.str " "))) (mVar 6))) yNil)))
  (ySeq (yDrop (yMC fApp (yVar 2) (yCons (yVar 5) yNil)))
  (yRet (yP (mA dTup (mCons (mC (.str "begin")) (mCons (mVar 5) (mCons (m2 dMod (m2 dFdiv (mVar 1) (mC (.int 9))) (mC (.int 1000))) mNil)))))))))))))))
theorem fd9 (c : Int) : dFdiv (.int c) (.int 9) = some (.int (c / 9)) := dFdiv_pos (by decide)
theorem bb_run (h : CS μ A E B I tl Dw) (hE : E.length < 64) (hA : A.length ≤ 100) (hB : B.length ≤ 900) (hI : I.length ≤ 900) (hD : Dw.length ≤ 900) (ht : tl.length ≤ 900) (hl : ∀ l ∈ tl, l.length ≤ 900) (hz : A ≠ [] → tl ≠ []) :
    ∃ μ' w, BB (RF c none none none none none) μ = some (.rt (.da (rowD (.beg (E.length : Int) (c / 9 % 1000) w))), μ') ∧ w.length ≤ 12 ∧ PyData.strOk w = true ∧ CS μ' (A ++ [(E.length : Int)]) (E ++ [evW w]) (B ++ [(E.length : Int)]) (I ++ [iiW ((E.length : Int), A.getLast?)]) (trS tl ((E.length : Int), A.getLast?)) (Dw ++ [tdW (.beg (E.length : Int) (c / 9 % 1000) w, A.length, A.getLast?)]) := by
  obtain ⟨w, gw, wl, wk⟩ := word_run (c / 9)
  have zl := zl
  let k := E.length
  have s1 : yLen (dg "events") (RF c none none none none none) μ = some (iW (k : Int), μ) := by
    unfold yLen
    rw [dg_run rfl h own2, Option.bind_some]
    simp only [h.e]
    rfl
  have s2 : yP (mA G_law_word_by (mCons (m2 dFdiv (mVar 1) (mC (.int 9))) mNil)) (RF c none (some (iW (k : Int))) none none none) μ = some (.da (.str w), μ) := by
    unfold yP
    rw [mA_eq (mCons_eq (m2_eq (x := .int c) rfl rfl (fd9 c)) rfl) gw]
    rfl
  let ρ := RF c none (some (iW (k : Int))) (some (.da (.str w))) none none
  have s3 := ap_run (ρ := ρ) (a := yP (mA dTup (mCons (mVar 6) (mCons (mC .none) (mCons (mC (.str "wait")) (mCons (mC (.int 0)) mNil)))))) (w := evW w) rfl h own2 h.e rfl (by omega)
  have h3 := h.setE (E ++ [evW w])
  have s4 := ap_run (ρ := ρ) (a := yVar 5) (w := iW (k : Int)) rfl h3 own3 h3.b rfl (by rw [List.length_map]; omega)
  have h4 : CS ((μ.set 2 (.lst (E ++ [evW w]))).set 3 (.lst (B.map iW ++ [iW (k : Int)]))) A (E ++ [evW w]) (B ++ [(k : Int)]) I tl Dw := by
    have := h3.setB (B ++ [(k : Int)])
    rw [List.map_append] at this
    exact this
  -- the turns
  have tr : ∃ μ5, yIfS (yTru (yVar 2)) (ySeq (yAsg (yIx (yVar 2) (yP (m1 dNeg (mC (.int 1))))) (ygSet 7)) (yDrop (yMC fApp (yIx (dg "turns") (yP (m1 dNeg (mC (.int 1))))) (yCons (yVar 5) yNil)))) (yDrop (yMC fApp (dg "turns") (yCons (yLstC (yCons (yVar 5) yNil)) yNil))) (RF c none (some (iW (k : Int))) (some (.da (.str w))) (some (.da .none)) none) ((μ.set 2 (.lst (E ++ [evW w]))).set 3 (.lst (B.map iW ++ [iW (k : Int)]))) = some (.nx (RF c none (some (iW (k : Int))) (some (.da (.str w))) (some (.da (innD A.getLast?))) none), μ5) ∧ CS μ5 A (E ++ [evW w]) (B ++ [(k : Int)]) I (trS tl ((k : Int), A.getLast?)) Dw := by
    cases q : A.getLast? with
    | none =>
      have eA : A = [] := List.getLast?_eq_none_iff.mp q
      obtain ⟨μ5, t1, t2⟩ := turn_run (ρ := RF c none (some (iW (k : Int))) (some (.da (.str w))) (some (.da .none)) none) (n := (k : Int)) rfl rfl h4 (by omega)
      refine ⟨μ5, ?_, t2⟩
      rw [yIfS_f ((tru_run h4).trans (by rw [eA]; rfl))]
      exact t1
    | some x =>
      have hA : A ≠ [] := fun z => by rw [z] at q; cases q
      obtain ⟨tl0, l, et⟩ := snoc_of (hz hA)
      subst et
      obtain ⟨μ5, t1, t2⟩ := turnL_run (ρ := RF c none (some (iW (k : Int))) (some (.da (.str w))) (some (iW x)) none) (n := (k : Int)) rfl rfl h4 (by have := hl l (by simp); omega)
      have es : trS (tl0 ++ [l]) ((k : Int), some x) = tl0 ++ [l ++ [(k : Int)]] := by
        show (tl0 ++ [l]).dropLast ++ [(tl0 ++ [l]).getLast?.getD [] ++ [(k : Int)]] = _
        simp
      rw [es]
      refine ⟨μ5, ?_, t2⟩
      have ne : A.isEmpty = false := by cases A; exact absurd rfl hA; rfl
      rw [yIfS_t ((tru_run h4).trans (by rw [ne]; rfl))]
      refine (ySeq_nx (yAsg_of (w := iW x) (ρ1 := RF c none (some (iW (k : Int))) (some (.da (.str w))) (some (iW x)) none) (last_run h4 q) rfl)).trans ?_
      exact t1
  obtain ⟨μ5, s6, h6⟩ := tr
  have s7 := ap_run (ρ := RF c none (some (iW (k : Int))) (some (.da (.str w))) (some (.da (innD A.getLast?))) none) (a := yP (mA dTup (mCons (mVar 5) (mCons (mVar 7) mNil)))) (w := iiW ((k : Int), A.getLast?)) rfl h6 own4 h6.i rfl (by omega)
  have h7 := h6.setI (I ++ [iiW ((k : Int), A.getLast?)])
  have s8 := ap_run (ρ := RF c none (some (iW (k : Int))) (some (.da (.str w))) (some (.da (innD A.getLast?))) none) rfl h7 own6 h7.d (tx1_run h7 hA hE (by omega) (c / 9 % 1000) A.getLast?) (by omega)
  have h8 := h7.setD (Dw ++ [tdW (.beg (k : Int) (c / 9 % 1000) w, A.length, A.getLast?)])
  have h9 : CS _ (A ++ [(k : Int)]) (E ++ [evW w]) (B ++ [(k : Int)]) (I ++ [iiW ((k : Int), A.getLast?)]) (trS tl ((k : Int), A.getLast?)) (Dw ++ [tdW (.beg (k : Int) (c / 9 % 1000) w, A.length, A.getLast?)]) := h8.setA (A ++ [(k : Int)])
  refine ⟨_, w, ?_, wl, wk, h9⟩
  unfold BB
  refine (ySeq_nx (yAsg_of (ρ1 := RF c none (some (iW (k : Int))) none none none) s1 rfl)).trans ?_
  refine (ySeq_nx (yAsg_of (ρ1 := ρ) s2 rfl)).trans ?_
  refine (ySeq_nx s3).trans ?_
  refine (ySeq_nx s4).trans ?_
  refine (ySeq_nx (yAsg_of (w := .da .none) (ρ1 := RF c none (some (iW (k : Int))) (some (.da (.str w))) (some (.da .none)) none) rfl rfl)).trans ?_
  refine (ySeq_nx s6).trans ?_
  refine (ySeq_nx s7).trans ?_
  refine (ySeq_nx s8).trans ?_
  have hz1 : (A.map iW).length < sizeLine := by rw [List.length_map]; omega
  refine (ySeq_nx (yDrop_of (w := .da .none) (yMC_of (n := 1) (ws := A.map iW) (ws' := (A ++ [(k : Int)]).map iW) (us := [iW (k : Int)]) rfl ⟨_, h8.a⟩ rfl h8.a ?_))).trans ?_
  · show (if (A.map iW).length < sizeLine then some (W.da .none, A.map iW ++ [iW (k : Int)]) else none) = _
    rw [if_pos hz1, List.map_append]; rfl
  · refine yRet_of ?_
    unfold yP
    rw [mA_eq (mCons_eq rfl (mCons_eq (x := .int (k : Int)) rfl (mCons_eq (m2_eq (m2_eq (x := .int c) rfl rfl (fd9 c)) rfl (dMod_pos (by decide))) rfl))) (show dTup [.str "begin", .int (k : Int), .int (c / 9 % 1000)] = some (rowD (.beg (k : Int) (c / 9 % 1000) w)) from rfl)]
    rfl
end
theorem ins_app (a b : List Sc) : insOf (a ++ b) = insOf a ++ insOf b := by unfold insOf; rw [List.filterMap_append]
theorem ins_no {A : List Int} {r : Row} (hb : isB r = false) : insOf (toldS A r) = [] := by
  unfold toldS
  split
  · cases r <;> first | rfl | cases hb
  · rfl
theorem beg_no {rs : List Row} {r : Row} (hb : isB r = false) : begOf (rs ++ [r]) = begOf rs := by
  unfold begOf
  rw [List.filterMap_append]
  cases r <;> first | (cases hb; done) | simp
theorem RS.step {μ μ' : Sto} {rs : List Row} {ws : List Str} {r : Row} (h : RS μ rs ws) (hb : isB r = false) (hr : okR_ r) (he : isE r = true → (scn rs).2 ≠ []) (ho : okT ws r) (hs : (rowD r).canLay0 = true ∧ (rowD r).depth ≤ 10) (ht : ∀ s ∈ toldS (scn rs).2 r, PyData.strOk (txS s) = true)
    (cs : CS μ' (arS (scn rs).2 r) (ws.map evW) (begOf rs) ((insOf (scn rs).1).map iiW) (trn (insOf (scn rs).1)) ((scn rs).1.map tdW ++ (toldS (scn rs).2 r).map tdW)) : RS μ' (rs ++ [r]) ws := by
  have e1 : (scn (rs ++ [r])).1 = (scn rs).1 ++ toldS (scn rs).2 r := by rw [scn_snoc]; rfl
  have e2 : (scn (rs ++ [r])).2 = arS (scn rs).2 r := by rw [scn_snoc]; rfl
  have e3 : insOf (scn (rs ++ [r])).1 = insOf (scn rs).1 := by rw [e1, ins_app, ins_no hb, List.append_nil]
  refine ⟨?_, h.wf.snoc hr he, by rw [e3]; exact h.wi, fun x hx => ?_, by rw [List.length_append]; have := h.wl; omega, ?_, h.wk, fun s hs' => ?_, fun x hx => ?_⟩
  · rw [e3, e2, beg_no hb, e1, List.map_append]
    exact cs
  · rcases List.mem_append.mp hx with hx | hx
    · exact h.ot x hx
    · rw [List.mem_singleton.mp hx]; exact ho
  · rw [e2, e3]
    intro z
    refine h.tz fun z2 => z ?_
    rw [z2]
    cases r <;> first | rfl | cases hb
  · rw [e1] at hs'
    rcases List.mem_append.mp hs' with q | q
    · exact h.tk s q
    · exact ht s q
  · rcases List.mem_append.mp hx with hx | hx
    · exact h.sh x hx
    · rw [List.mem_singleton.mp hx]; exact hs
theorem strOk_b : PyData.strOk (" " : Str) = true ∧ PyData.strOk ("- " : Str) = true ∧ PyData.strOk ("wait" : Str) = true ∧ PyData.strOk ("call" : Str) = true := by decide +kernel
theorem RS.beg {μ μ' : Sto} {rs : List Row} {ws : List Str} {x : Int} {w : Str} (h : RS μ rs ws) (hl : rs.length < 64) (wl : w.length ≤ 12) (wk : PyData.strOk w = true)
    (cs : CS μ' ((scn rs).2 ++ [(ws.length : Int)]) (ws.map evW ++ [evW w]) (begOf rs ++ [(ws.length : Int)]) ((insOf (scn rs).1).map iiW ++ [iiW ((ws.length : Int), (scn rs).2.getLast?)]) (trS (trn (insOf (scn rs).1)) ((ws.length : Int), (scn rs).2.getLast?)) ((scn rs).1.map tdW ++ [tdW (.beg (ws.length : Int) x w, (scn rs).2.length, (scn rs).2.getLast?)])) : RS μ' (rs ++ [.beg (ws.length : Int) x w]) (ws ++ [w]) := by
  have e1 : (scn (rs ++ [Row.beg (ws.length : Int) x w])).1 = (scn rs).1 ++ [(.beg (ws.length : Int) x w, (scn rs).2.length, (scn rs).2.getLast?)] := by rw [scn_snoc]; rfl
  have e2 : (scn (rs ++ [Row.beg (ws.length : Int) x w])).2 = (scn rs).2 ++ [(ws.length : Int)] := by rw [scn_snoc]; rfl
  have e3 : insOf (scn (rs ++ [Row.beg (ws.length : Int) x w])).1 = insOf (scn rs).1 ++ [((ws.length : Int), (scn rs).2.getLast?)] := by rw [e1, ins_app]; rfl
  have e4 : begOf (rs ++ [Row.beg (ws.length : Int) x w]) = begOf rs ++ [(ws.length : Int)] := by unfold begOf; rw [List.filterMap_append]; rfl
  have wle := h.wl
  obtain ⟨k1, k2, k3, k4⟩ := strOk_b
  refine ⟨?_, h.wf.snoc trivial (fun z => by cases z), ?_, fun r hr => ?_, by rw [List.length_append, List.length_append]; simpa using wle, ?_, fun y hy => ?_, fun s hs => ?_, fun r hr => ?_⟩
  · rw [e3, e2, e4, e1, List.map_append, List.map_append, List.map_append, trn_snoc]
    exact cs
  · rw [e3]
    intro d p r e hp
    rcases List.eq_nil_or_concat r with z | ⟨r', y, z⟩
    · subst z
      have := List.append_inj' e rfl
      rw [← this.1]
      have e5 := List.singleton_inj.mp this.2
      rw [← e5] at hp
      refine h.tz fun z => hp ?_
      show (scn rs).2.getLast? = none
      rw [z]; rfl
    · rw [z, List.concat_eq_append, ← List.cons_append, ← List.append_assoc] at e
      exact h.wi d p r' (List.append_inj' e rfl).1 hp
  · rcases List.mem_append.mp hr with hr | hr
    · have := h.ot r hr
      cases r with
      | beg n x' w' =>
        obtain ⟨k, q1, q2, q3, q4⟩ := this
        exact ⟨k, q1, q2, get_app q3, q4⟩
      | fin => trivial
      | cal n w' => exact this
      | oth => trivial
    · rw [List.mem_singleton.mp hr]
      exact ⟨ws.length, rfl, by omega, by rw [List.getElem?_append_right (Nat.le_refl _), Nat.sub_self]; rfl, by omega⟩
  · rw [e3, trn_snoc]
    intro _ z
    unfold trS at z
    split at z <;> simp at z
  · rcases List.mem_append.mp hy with hy | hy
    · exact h.wk y hy
    · rw [List.mem_singleton.mp hy]; exact wk
  · rw [e1] at hs
    rcases List.mem_append.mp hs with hs | hs
    · exact h.tk s hs
    · rw [List.mem_singleton.mp hs]
      show PyData.strOk (repS ("  " : Str) ((scn rs).2.length : Int) ++ (sn (ws.length : Int) ++ (" " : Str) ++ w)) = true
      exact strOk_app (strOk_rep _) (strOk_app (strOk_app (sn_ok _ (by omega)) k1) wk)
  · rcases List.mem_append.mp hr with hr | hr
    · exact h.sh r hr
    · rw [List.mem_singleton.mp hr]
      show (PyData.tuple [.str "begin", .int (ws.length : Int), .int x]).canLay0 = true ∧ (PyData.tuple [.str "begin", .int (ws.length : Int), .int x]).depth ≤ 10
      constructor
      · simp only [PyData.canLay0, PyData.canLayAll0, ok_b, Bool.and_self]
      · simp only [PyData.depth, PyData.depthAll]; omega
theorem ix_mapR {α : Type} {f : α → D} {xs : List α} {i : Nat} {x : α} (h : xs[i]? = some x) : dIx (.list (xs.map f)) (.int i) = some (f x) := by
  show atI (xs.map f) (i : Int) = _
  obtain ⟨hl, _⟩ := List.getElem?_eq_some_iff.mp h
  rw [atI_in (by omega) (by simpa using hl), List.getElem?_map, Int.toNat_natCast, h]
  rfl
def rowsO (x m : Int) : List Row := [.oth "hush" [.int x], .oth "make" [.int x, .int m], .oth "cancel" [.int x, .tuple [.int 0, .int 3]], .oth "send" [.int m], .oth "join" [.int x, .str "begin"], .oth "leave" [.int x, .str "end"]]
theorem six : PyData.strOk ("hush" : Str) = true ∧ PyData.strOk ("make" : Str) = true ∧ PyData.strOk ("cancel" : Str) = true ∧ PyData.strOk ("send" : Str) = true ∧ PyData.strOk ("join" : Str) = true ∧ PyData.strOk ("leave" : Str) = true := by decide +kernel
theorem rowsO_ok {x m : Int} : ∀ r ∈ rowsO x m, isB r = false ∧ isE r = false ∧ isC r = false ∧ okR_ r ∧ ((rowD r).canLay0 = true ∧ (rowD r).depth ≤ 10) := by
  obtain ⟨a1, a2, a3, a4, a5, a6⟩ := six
  have b1 := ok_b
  have b2 := ok_e
  intro r hr
  simp only [rowsO, List.mem_cons, List.not_mem_nil, or_false] at hr
  rcases hr with rfl | rfl | rfl | rfl | rfl | rfl
  · exact ⟨rfl, rfl, rfl, .inl rfl, by simp only [rowD, PyData.canLay0, PyData.canLayAll0, a1, Bool.and_self], by simp only [rowD, PyData.depth, PyData.depthAll]; omega⟩
  · exact ⟨rfl, rfl, rfl, .inr (.inl rfl), by simp only [rowD, PyData.canLay0, PyData.canLayAll0, a2, Bool.and_self], by simp only [rowD, PyData.depth, PyData.depthAll]; omega⟩
  · exact ⟨rfl, rfl, rfl, .inr (.inr (.inl rfl)), by simp only [rowD, PyData.canLay0, PyData.canLayAll0, a3, Bool.and_self], by simp only [rowD, PyData.depth, PyData.depthAll]; omega⟩
  · exact ⟨rfl, rfl, rfl, .inr (.inr (.inr (.inl rfl))), by simp only [rowD, PyData.canLay0, PyData.canLayAll0, a4, Bool.and_self], by simp only [rowD, PyData.depth, PyData.depthAll]; omega⟩
  · exact ⟨rfl, rfl, rfl, .inr (.inr (.inr (.inr (.inl rfl)))), by simp only [rowD, PyData.canLay0, PyData.canLayAll0, a5, b1, Bool.and_self], by simp only [rowD, PyData.depth, PyData.depthAll]; omega⟩
  · exact ⟨rfl, rfl, rfl, .inr (.inr (.inr (.inr (.inr rfl)))), by simp only [rowD, PyData.canLay0, PyData.canLayAll0, a6, b2, Bool.and_self], by simp only [rowD, PyData.depth, PyData.depthAll]; omega⟩
section
variable {μ : Sto} {A : List Int} {E : List W} {B : List Int} {I : List W} {tl : List (List Int)} {Dw : List W} {c x : Int}
def R0 (c : Int) : YF := RF c none none none none none
def EB : YM YO := (yRet (yA dTup (yCons (yP (mC (.str "end"))) (yCons (yMC fPop (yVar 2) yNil) yNil))))
theorem eb_run (h : CS μ A E B I tl Dw) (hx : A.getLast? = some x) : EB (R0 c) μ = some (.rt (.da (rowD (.fin x))), μ.set 1 (.lst (A.dropLast.map iW))) := by
  have hl : (A.map iW)[(A.map iW).length - 1]? = some (iW x) := by
    rw [← List.getLast?_eq_getElem?, List.getLast?_map, hx]; rfl
  have e1 : yMC fPop (yVar 2) yNil (R0 c) μ = some (iW x, μ.set 1 (.lst (A.dropLast.map iW))) := by
    refine yMC_of (n := 1) (ws := A.map iW) (us := []) rfl ⟨_, h.a⟩ rfl h.a ?_
    show ((A.map iW)[(A.map iW).length - 1]?).map (fun w => (w, (A.map iW).dropLast)) = _
    rw [hl, List.map_dropLast]; rfl
  refine yRet_of ?_
  unfold yA
  rw [yCons_of (w := .da (.str "end")) rfl (yCons_of e1 rfl), Option.bind_some]
  rfl
def CB : YM YO := (ySeq (yAsg (yP (mA G_law_word_by (mCons (m2 dFdiv (mVar 1) (mC (.int 9))) mNil))) (ygSet 8))
  (ySeq (yDrop (yMC fApp (dg "drawn") (yCons (yS (m2 dAdd (m2 dAdd (m2 dMulS (mC (.str "  ")) (mA dLen (mCons (mVar 2) mNil))) (mC (.str "- "))) (mVar 8))) yNil)))
  (yRet (yA dTup (yCons (yP (mC (.str "call"))) (yCons (yIx (yVar 2) (yP (m1 dNeg (mC (.int 1))))) (yCons (yVar 8) yNil)))))))
theorem cb_run (h : CS μ A E B I tl Dw) (hx : A.getLast? = some x) (hA : A.length ≤ 100) (hD : Dw.length ≤ 900) : ∃ w : Str, w.length ≤ 12 ∧ PyData.strOk w = true ∧ CB (R0 c) μ = some (.rt (.da (rowD (.cal x w))), μ.set 6 (.lst (Dw ++ [tdW (.cal x w, A.length, A.getLast?)]))) := by
  obtain ⟨w, gw, wl, wk⟩ := word_run (c / 9)
  have zl := zl
  refine ⟨w, wl, wk, ?_⟩
  have s2 : yP (mA G_law_word_by (mCons (m2 dFdiv (mVar 1) (mC (.int 9))) mNil)) (R0 c) μ = some (.da (.str w), μ) := by
    unfold yP
    rw [mA_eq (mCons_eq (m2_eq (x := .int c) rfl rfl (fd9 c)) rfl) gw]
    rfl
  have s8 := ap_run (ρ := RF c none none none none (some (.da (.str w)))) rfl h own6 h.d (tx2_run h hA (by omega) x A.getLast?) (by omega)
  have h8 := h.setD (Dw ++ [tdW (.cal x w, A.length, A.getLast?)])
  unfold CB
  refine (ySeq_nx (yAsg_of (ρ1 := RF c none none none none (some (.da (.str w)))) s2 rfl)).trans ?_
  refine (ySeq_nx s8).trans ?_
  refine yRet_of ?_
  unfold yA
  rw [yCons_of (w := .da (.str "call")) rfl (yCons_of (last_run h8 hx) (yCons_of (a := yVar 8) (w := .da (.str w)) rfl rfl)), Option.bind_some]
  rfl
def OB : YM YO := (ySeq (yAsg (yA dLst (yCons (yA dTup (yCons (yP (mC (.str "hush"))) (yCons (yIx (yVar 2) (yP (m1 dNeg (mC (.int 1))))) yNil))) (yCons (yA dTup (yCons (yP (mC (.str "make"))) (yCons (yIx (yVar 2) (yP (m1 dNeg (mC (.int 1))))) (yCons (yP (m2 dMod (m2 dFdiv (mVar 1) (mC (.int 9))) (mC (.int 50)))) yNil)))) (yCons (yA dTup (yCons (yP (mC (.str "cancel"))) (yCons (yIx (yVar 2) (yP (m1 dNeg (mC (.int 1))))) (yCons (yP (mA dTup (mCons (mC (.int 0)) (mCons (mC (.int 3)) mNil)))) yNil)))) yNil)))) (ygSet 4))
  (ySeq (yAsg (y2 dAdd (yVar 4) (yA dLst (yCons (yP (mA dTup (mCons (mC (.str "send")) (mCons (m2 dMod (m2 dFdiv (mVar 1) (mC (.int 9))) (mC (.int 50))) mNil)))) (yCons (yA dTup (yCons (yP (mC (.str "join"))) (yCons (yIx (yVar 2) (yP (m1 dNeg (mC (.int 1))))) (yCons (yP (mC (.str "begin"))) yNil)))) (yCons (yA dTup (yCons (yP (mC (.str "leave"))) (yCons (yIx (yVar 2) (yP (m1 dNeg (mC (.int 1))))) (yCons (yP (mC (.str "end"))) yNil)))) yNil))))) (ygSet 4))
  (yRet (yP (m2 dIx (mVar 4) (m2 dMod (m2 dFdiv (mVar 1) (mC (.int 9))) (mC (.int 6))))))))
theorem tupW {ρ : YF} {μ μ' : Sto} {m : YM (List W)} {ws : List W} {ds : List D} (h : m ρ μ = some (ws, μ')) (e : allDa ws = some ds) (hz : ds.length ≤ 1000) : yA dTup m ρ μ = some (.da (.tuple ds), μ') := by
  unfold yA
  rw [h, Option.bind_some]
  simp only [e, Option.bind_some]
  have : dTup ds = some (.tuple ds) := if_pos (Nat.le_trans hz zl)
  rw [this]; rfl
theorem lstW {ρ : YF} {μ μ' : Sto} {m : YM (List W)} {ws : List W} {ds : List D} (h : m ρ μ = some (ws, μ')) (e : allDa ws = some ds) (hz : ds.length ≤ 1000) : yA dLst m ρ μ = some (.da (.list ds), μ') := by
  unfold yA
  rw [h, Option.bind_some]
  simp only [e, Option.bind_some]
  have : dLst ds = some (.list ds) := if_pos (Nat.le_trans hz zl)
  rw [this]; rfl
theorem addL {a b : List D} (h : a.length + b.length ≤ 1000) : dAdd (.list a) (.list b) = some (.list (a ++ b)) := by
  show (if a.length + b.length ≤ sizeLine then some (PyData.list (a ++ b)) else none) = _
  exact if_pos (Nat.le_trans h zl)
theorem ob_run (h : CS μ A E B I tl Dw) (hx : A.getLast? = some x) : ∃ r ∈ rowsO x (c / 9 % 50), OB (R0 c) μ = some (.rt (.da (rowD r)), μ) := by
  have g0 : 0 ≤ c / 9 % 6 := Int.emod_nonneg _ (by decide)
  have g1 : c / 9 % 6 < 6 := Int.emod_lt_of_pos _ (by decide)
  have hl : (c / 9 % 6).toNat < (rowsO x (c / 9 % 50)).length := by show _ < 6; omega
  refine ⟨(rowsO x (c / 9 % 50))[(c / 9 % 6).toNat], List.getElem_mem hl, ?_⟩
  have m50 : ∀ (o : Option W), yP (m2 dMod (m2 dFdiv (mVar 1) (mC (.int 9))) (mC (.int 50))) (RF c o none none none none) μ = some (iW (c / 9 % 50), μ) := fun o => by
    unfold yP
    rw [m2_eq (m2_eq (x := .int c) rfl rfl (fd9 c)) rfl (dMod_pos (by decide))]
    rfl
  have lr : ∀ (o : Option W), yIx (yVar 2) (yP (m1 dNeg (mC (.int 1)))) (RF c o none none none none) μ = some (iW x, μ) := fun o => last_run h hx
  have t1 := tupW (ds := [.str "hush", .int x]) (ρ := R0 c) (μ := μ) (m := yCons (yP (mC (.str "hush"))) (yCons (yIx (yVar 2) (yP (m1 dNeg (mC (.int 1))))) yNil)) (yCons_of (w := .da (.str "hush")) rfl (yCons_of (lr none) rfl)) rfl (show 2 ≤ 1000 by decide)
  have t2 := tupW (ds := [.str "make", .int x, .int (c / 9 % 50)]) (ρ := R0 c) (μ := μ) (m := yCons (yP (mC (.str "make"))) (yCons (yIx (yVar 2) (yP (m1 dNeg (mC (.int 1))))) (yCons (yP (m2 dMod (m2 dFdiv (mVar 1) (mC (.int 9))) (mC (.int 50)))) yNil))) (yCons_of (w := .da (.str "make")) rfl (yCons_of (lr none) (yCons_of (m50 none) rfl))) rfl (show 3 ≤ 1000 by decide)
  have t3 := tupW (ds := [.str "cancel", .int x, .tuple [.int 0, .int 3]]) (ρ := R0 c) (μ := μ) (m := yCons (yP (mC (.str "cancel"))) (yCons (yIx (yVar 2) (yP (m1 dNeg (mC (.int 1))))) (yCons (yP (mA dTup (mCons (mC (.int 0)) (mCons (mC (.int 3)) mNil)))) yNil))) (yCons_of (w := .da (.str "cancel")) rfl (yCons_of (lr none) (yCons_of (w := .da (.tuple [.int 0, .int 3])) rfl rfl))) rfl (show 3 ≤ 1000 by decide)
  have l1 := lstW (ds := [.tuple [.str "hush", .int x], .tuple [.str "make", .int x, .int (c / 9 % 50)], .tuple [.str "cancel", .int x, .tuple [.int 0, .int 3]]]) (yCons_of t1 (yCons_of t2 (yCons_of t3 (rfl : yNil (R0 c) μ = some ([], μ))))) rfl (show 3 ≤ 1000 by decide)
  let L1 : D := .list [.tuple [.str "hush", .int x], .tuple [.str "make", .int x, .int (c / 9 % 50)], .tuple [.str "cancel", .int x, .tuple [.int 0, .int 3]]]
  have u1 : yP (mA dTup (mCons (mC (.str "send")) (mCons (m2 dMod (m2 dFdiv (mVar 1) (mC (.int 9))) (mC (.int 50))) mNil))) (RF c (some (.da L1)) none none none none) μ = some (.da (.tuple [.str "send", .int (c / 9 % 50)]), μ) := by
    unfold yP
    rw [mA_eq (mCons_eq rfl (mCons_eq (m2_eq (m2_eq (x := .int c) rfl rfl (fd9 c)) rfl (dMod_pos (by decide))) rfl)) (show dTup [.str "send", .int (c / 9 % 50)] = some (.tuple [.str "send", .int (c / 9 % 50)]) from rfl)]
    rfl
  have u2 := tupW (ds := [.str "join", .int x, .str "begin"]) (ρ := RF c (some (.da L1)) none none none none) (μ := μ) (m := yCons (yP (mC (.str "join"))) (yCons (yIx (yVar 2) (yP (m1 dNeg (mC (.int 1))))) (yCons (yP (mC (.str "begin"))) yNil))) (yCons_of (w := .da (.str "join")) rfl (yCons_of (lr (some (.da L1))) (yCons_of (w := .da (.str "begin")) rfl rfl))) rfl (show 3 ≤ 1000 by decide)
  have u3 := tupW (ds := [.str "leave", .int x, .str "end"]) (ρ := RF c (some (.da L1)) none none none none) (μ := μ) (m := yCons (yP (mC (.str "leave"))) (yCons (yIx (yVar 2) (yP (m1 dNeg (mC (.int 1))))) (yCons (yP (mC (.str "end"))) yNil))) (yCons_of (w := .da (.str "leave")) rfl (yCons_of (lr (some (.da L1))) (yCons_of (w := .da (.str "end")) rfl rfl))) rfl (show 3 ≤ 1000 by decide)
  have l2 := lstW (ds := [.tuple [.str "send", .int (c / 9 % 50)], .tuple [.str "join", .int x, .str "begin"], .tuple [.str "leave", .int x, .str "end"]]) (yCons_of u1 (yCons_of u2 (yCons_of u3 (rfl : yNil (RF c (some (.da L1)) none none none none) μ = some ([], μ))))) rfl (show 3 ≤ 1000 by decide)
  let L2 : D := .list ((rowsO x (c / 9 % 50)).map rowD)
  unfold OB
  refine (ySeq_nx (yAsg_of (w := .da L1) (ρ1 := RF c (some (.da L1)) none none none none) l1 rfl)).trans ?_
  refine (ySeq_nx (yAsg_of (w := .da L2) (μ1 := μ) (ρ1 := RF c (some (.da L2)) none none none none) ?_ rfl)).trans ?_
  · exact y2_of (a := yVar 4) (x := L1) rfl l2 (addL (show 3 + 3 ≤ 1000 by decide))
  · refine yRet_of ?_
    have ix : dIx L2 (.int (c / 9 % 6)) = some (rowD (rowsO x (c / 9 % 50))[(c / 9 % 6).toNat]) := by
      have := ix_mapR (f := rowD) (List.getElem?_eq_getElem hl)
      rw [Int.toNat_of_nonneg g0] at this
      exact this
    unfold yP
    rw [m2_eq (x := L2) rfl (m2_eq (m2_eq (x := .int c) rfl rfl (fd9 c)) rfl (dMod_pos (by decide))) ix]
    rfl
end
theorem row_run {μ : Sto} {rs : List Row} {ws : List Str} {c : Int} (h : RS μ rs ws) (hl : rs.length ≤ 62) : ∃ μ' r ws', G_law_row [.rf 0, .da (.int c)] μ = some (.da (rowD r), μ') ∧ RS μ' (rs ++ [r]) ws' := by
  have start : ∀ {o : W} {μ' : Sto}, ySeq (yIfS (yOr (yPT (mB (m2 dLt (mVar 3) (mC (.int 3))))) (yNot (yTru (yVar 2)))) BB yNext) (ySeq (yIfS (yPT (mB (m2 dLt (mVar 3) (mC (.int 5))))) EB yNext) (ySeq (yIfS (yPT (mB (m2 dLt (mVar 3) (mC (.int 7))))) CB yNext) OB)) (R0 c) μ = some (.rt o, μ') → G_law_row [.rf 0, .da (.int c)] μ = some (o, μ') := fun {o μ'} hh => by
    refine runY_rt rfl ?_
    unfold m_law_row
    show ySeq _ _ [some (.rf 0), some (.da (.int c)), none, none, none, none, none, none, none] μ = _
    refine (ySeq_nx (yAsg_of (w := .rf 1) (μ1 := μ) (ρ1 := [some (.rf 0), some (.da (.int c)), some (.rf 1), none, none, none, none, none, none]) (dg_run (s := "around") rfl h.cs own1) rfl)).trans ?_
    refine (ySeq_nx (yAsg_of (w := iW (c % 9)) (μ1 := μ) (ρ1 := R0 c) ?_ rfl)).trans ?_
    · unfold yP
      rw [m2_eq (x := .int c) rfl rfl (dMod_pos (by decide))]
      rfl
    · exact hh
  have t : ∀ (q : Int), yPT (mB (m2 dLt (mVar 3) (mC (.int q)))) (R0 c) μ = some (decide (c % 9 < q), μ) := fun q => by
    unfold yPT
    rw [mB_eq (b := decide (c % 9 < q)) (m2_eq (x := .int (c % 9)) rfl rfl rfl)]
    rfl
  have tr := tru_run (c := c) (o4 := none) (o5 := none) (o6 := none) (o7 := none) (o8 := none) h.cs
  obtain ⟨b1, b2⟩ := len_scn rs
  have b3 : (insOf (scn rs).1).length ≤ (scn rs).1.length := List.length_filterMap_le _ _
  have b4 : (begOf rs).length ≤ rs.length := List.length_filterMap_le _ _
  obtain ⟨b5, b6⟩ := trn_len (insOf (scn rs).1)
  have wl := h.wl
  by_cases c1 : c % 9 < 3 ∨ (scn rs).2 = []
  · obtain ⟨μ', w, e, w1, w2, cs⟩ := bb_run (c := c) h.cs (by rw [List.length_map]; omega) (by omega) (by omega) (by rw [List.length_map]; omega) (by rw [List.length_map]; omega) (by omega) (fun l hl' => by have := b6 l hl'; omega) h.tz
    rw [List.length_map] at e cs
    refine ⟨μ', _, ws ++ [w], start (ySeq_rt ?_), h.beg (by omega) w1 w2 cs⟩
    refine (yIfS_t ?_).trans e
    unfold yOr
    rw [t 3, Option.bind_some]
    by_cases z : c % 9 < 3
    · rw [decide_eq_true z]; rfl
    · have ea : (scn rs).2 = [] := c1.resolve_left z
      rw [decide_eq_false z]
      simp only [Bool.false_eq_true, if_false]
      unfold yNot
      show (yTru (yVar 2) (RF c none none none none none) μ).bind _ = _
      rw [tr, ea]
      rfl
  · have c2 : ¬ c % 9 < 3 := fun z => c1 (.inl z)
    have hA : (scn rs).2 ≠ [] := fun z => c1 (.inr z)
    obtain ⟨x, hx⟩ : ∃ x, (scn rs).2.getLast? = some x := ⟨_, List.getLast?_eq_some_getLast hA⟩
    have f1 : yIfS (yOr (yPT (mB (m2 dLt (mVar 3) (mC (.int 3))))) (yNot (yTru (yVar 2)))) BB yNext (R0 c) μ = some (.nx (R0 c), μ) := by
      refine (yIfS_f ?_).trans rfl
      unfold yOr
      rw [t 3, Option.bind_some, decide_eq_false c2]
      simp only [Bool.false_eq_true, if_false]
      unfold yNot
      show (yTru (yVar 2) (RF c none none none none none) μ).bind _ = _
      rw [tr, Option.bind_some]
      have : (scn rs).2.isEmpty = false := by
        cases q : (scn rs).2 with
        | nil => exact absurd q hA
        | cons => rfl
      rw [this]
      rfl
    obtain ⟨k1, k2, k3, k4⟩ := strOk_b
    by_cases c5 : c % 9 < 5
    · refine ⟨_, .fin x, ws, start ((ySeq_nx f1).trans (ySeq_rt ((yIfS_t ((t 5).trans (by rw [decide_eq_true c5]))).trans (eb_run h.cs hx)))), h.step rfl trivial (fun _ => hA) trivial ?_ (fun s hs => by cases hs) ?_⟩
      · show (PyData.tuple [.str "end", .int x]).canLay0 = true ∧ (PyData.tuple [.str "end", .int x]).depth ≤ 10
        constructor
        · simp only [PyData.canLay0, PyData.canLayAll0, ok_e, Bool.and_self]
        · simp only [PyData.depth, PyData.depthAll]; omega
      · show CS _ (scn rs).2.dropLast _ _ _ _ ((scn rs).1.map tdW ++ [])
        rw [List.append_nil]
        exact h.cs.setA _
    have f2 : yIfS (yPT (mB (m2 dLt (mVar 3) (mC (.int 5))))) EB yNext (R0 c) μ = some (.nx (R0 c), μ) := (yIfS_f ((t 5).trans (by rw [decide_eq_false c5]))).trans rfl
    by_cases c7 : c % 9 < 7
    · obtain ⟨w, w1, w2, e⟩ := cb_run (c := c) h.cs hx (by omega) (by rw [List.length_map]; omega)
      refine ⟨_, .cal x w, ws, start ((ySeq_nx f1).trans ((ySeq_nx f2).trans (ySeq_rt ((yIfS_t ((t 7).trans (by rw [decide_eq_true c7]))).trans e)))), h.step rfl trivial (fun z => by cases z) (show w.length ≤ 100 by omega) ?_ (fun s hs => ?_) ?_⟩
      · show (PyData.tuple [.str "call", .int x, .str w]).canLay0 = true ∧ (PyData.tuple [.str "call", .int x, .str w]).depth ≤ 10
        constructor
        · simp only [PyData.canLay0, PyData.canLayAll0, k4, w2, Bool.and_self]
        · simp only [PyData.depth, PyData.depthAll]; omega
      · have : s = (.cal x w, (scn rs).2.length, (scn rs).2.getLast?) := List.mem_singleton.mp hs
        rw [this]
        exact strOk_app (strOk_rep _) (strOk_app k2 w2)
      · exact h.cs.setD _
    have f3 : yIfS (yPT (mB (m2 dLt (mVar 3) (mC (.int 7))))) CB yNext (R0 c) μ = some (.nx (R0 c), μ) := (yIfS_f ((t 7).trans (by rw [decide_eq_false c7]))).trans rfl
    obtain ⟨r, hr, e⟩ := ob_run (c := c) h.cs hx
    obtain ⟨r1, r2, r3, r4, r5⟩ := rowsO_ok r hr
    have to : toldS (scn rs).2 r = [] := by unfold toldS; rw [r3]; rfl
    have ao : arS (scn rs).2 r = (scn rs).2 := by cases r <;> first | rfl | (cases r1; done) | (cases r2; done)
    have oo : okT ws r := by cases r <;> first | trivial | (cases r3; done)
    refine ⟨μ, r, ws, start ((ySeq_nx f1).trans ((ySeq_nx f2).trans ((ySeq_nx f3).trans e))), h.step r1 r4 (fun z => by rw [r2] at z; cases z) oo r5 (fun s hs => by rw [to] at hs; cases hs) ?_⟩
    rw [to, ao, List.map_nil, List.append_nil]
    exact h.cs
theorem yComp_rows {l : List Int} {turn : W → Sto → Option (Option W × Sto)} (I : List Row → Sto → Prop) (n : Nat) (step : ∀ rs μ (a : Int), I rs μ → rs.length < n → ∃ r μ', turn (.da (.int a)) μ = some (some (.da (rowD r)), μ') ∧ I (rs ++ [r]) μ') : ∀ {rs : List Row} {μ : Sto}, I rs μ → rs.length + l.length ≤ n → ∃ rs' μ', yComp gdT turn (l.map fun a => W.da (.int a)) μ = some (rs'.map fun r => W.da (rowD r), μ') ∧ I (rs ++ rs') μ' ∧ rs'.length = l.length := by
  induction l with
  | nil => intro rs μ h _; exact ⟨[], μ, rfl, by rw [List.append_nil]; exact h, rfl⟩
  | cons a l ih =>
    intro rs μ h hn
    rw [List.length_cons] at hn
    obtain ⟨r, μ1, e1, h1⟩ := step rs μ a h (by omega)
    obtain ⟨rs', μ2, e2, h2, h3⟩ := ih h1 (by rw [List.length_append, List.length_singleton]; omega)
    refine ⟨r :: rs', μ2, ?_, by rw [List.append_assoc] at h2; exact h2, by rw [List.length_cons, List.length_cons, h3]⟩
    rw [List.map_cons]
    unfold yComp
    rw [e1, Option.bind_some]
    simp only [gdT, if_true]
    rw [e2]
    rfl
theorem CS.fra {μ μ' : Sto} {A : List Int} {E : List W} {B : List Int} {I : List W} {tl : List (List Int)} {Dw : List W} (h : CS μ A E B I tl Dw) (f : Fra [] μ μ') : CS μ' A E B I tl Dw := by
  obtain ⟨cs, h1, h2⟩ := h.t
  have g : ∀ {n : Nat} {c : Cell}, μ[n]? = some c → μ'[n]? = some c := fun e => f.at_ _ _ (by simp) e
  exact ⟨g h.o, g h.a, g h.e, g h.b, g h.i, ⟨cs, ⟨g h1.at_, fun p hp => g (h1.each p hp), h1.len, h1.nd, h1.nt⟩, h2⟩, g h.d⟩
theorem LLs.fra {μ μ' : Sto} {t : Nat} {cs : List Nat} {tl : List (List Int)} (h : LLs μ t cs tl) (f : Fra [] μ μ') : LLs μ' t cs tl := by
  have g : ∀ {n : Nat} {c : Cell}, μ[n]? = some c → μ'[n]? = some c := fun e => f.at_ _ _ (by simp) e
  exact ⟨g h.at_, fun p hp => g (h.each p hp), h.len, h.nd, h.nt⟩
def evD1 (w : Str) : D := .tuple [.str w, .none, .str "wait", .int 0]
def tlD (tl : List (List Int)) : D := .list (tl.map fun l => PyData.list (l.map .int))
def ownD (A : List Int) (ws : List Str) (B : List Int) (I : List (Int × Option Int)) (tl : List (List Int)) (S : List Sc) : D :=
  .dict [(.str "around", .list (A.map .int)), (.str "events", .list (ws.map evD1)), (.str "begun", .list (B.map .int)), (.str "inside", .list (I.map iD)), (.str "turns", tlD tl), (.str "drawn", .list (S.map fun s => .str (txS s)))]
theorem own_dat {μ : Sto} {A : List Int} {ws : List Str} {B : List Int} {I : List (Int × Option Int)} {tl : List (List Int)} {S : List Sc} (h : CS μ A (ws.map evW) B (I.map iiW) tl (S.map tdW)) : Md.dat μ 6 (.rf 0) = some (ownD A ws B I tl S) := by
  obtain ⟨cs, h1, _⟩ := h.t
  have d1 : Md.dat μ 5 (.rf 1) = some (.list (A.map .int)) := dat_ints h.a
  have d2 : Md.dat μ 5 (.rf 2) = some (.list (ws.map evD1)) := dat_lst (e := evW) (o := evD1) h.e fun _ _ => dat_da _ _ _
  have d3 : Md.dat μ 5 (.rf 3) = some (.list (B.map .int)) := dat_ints h.b
  have d4 : Md.dat μ 5 (.rf 4) = some (.list (I.map iD)) := dat_lst (e := iiW) (o := iD) h.i fun _ _ => dat_da _ _ _
  have d5 : Md.dat μ 5 (.rf 5) = some (tlD tl) := h1.dat
  have d6 : Md.dat μ 5 (.rf 6) = some (.list (S.map fun s => PyData.str (txS s))) := dat_lst (e := tdW) (o := fun s => PyData.str (txS s)) h.d fun _ _ => dat_da _ _ _
  show (match μ[0]? with | some (.lst ws) => (allO (Md.dat μ 5) ws).map PyData.list | some (.dct kws) => (allK (Md.dat μ 5) kws).map PyData.dict | _ => none) = _
  rw [h.o]
  simp only [ownK, allK, d1, d2, d3, d4, d5, d6, Option.bind_some, Option.map_some]
  rfl
theorem dg_cons {s t : Str} {d : D} {r : List (D × D)} : dDGet (.dict ((.str s, d) :: r)) (.str t) = if s = t then some d else dDGet (.dict r) (.str t) := by
  show dGetV ((.str s, d) :: r) (.inr t) = if s = t then some d else dGetV r (.inr t)
  unfold dGetV
  rw [List.find?_cons]
  by_cases h : s = t
  · subst h; simp [Pd.keyOf]
  · have : (Sum.inr s : Key) ≠ Sum.inr t := inr_ne h
    simp [Pd.keyOf, h]
section
variable {A : List Int} {ws : List Str} {B : List Int} {I : List (Int × Option Int)} {tl : List (List Int)} {S : List Sc}
theorem og2 : dDGet (ownD A ws B I tl S) (.str "events") = some (.list (ws.map evD1)) := by unfold ownD; rw [dg_cons, if_neg (by decide +kernel), dg_cons, if_pos rfl]
theorem og3 : dDGet (ownD A ws B I tl S) (.str "begun") = some (.list (B.map .int)) := by unfold ownD; rw [dg_cons, if_neg (by decide +kernel), dg_cons, if_neg (by decide +kernel), dg_cons, if_pos rfl]
theorem og4 : dDGet (ownD A ws B I tl S) (.str "inside") = some (.list (I.map iD)) := by unfold ownD; rw [dg_cons, if_neg (by decide +kernel), dg_cons, if_neg (by decide +kernel), dg_cons, if_neg (by decide +kernel), dg_cons, if_pos rfl]
theorem og5 : dDGet (ownD A ws B I tl S) (.str "turns") = some (tlD tl) := by unfold ownD; rw [dg_cons, if_neg (by decide +kernel), dg_cons, if_neg (by decide +kernel), dg_cons, if_neg (by decide +kernel), dg_cons, if_neg (by decide +kernel), dg_cons, if_pos rfl]
theorem og6 : dDGet (ownD A ws B I tl S) (.str "drawn") = some (.list (S.map fun s => .str (txS s))) := by unfold ownD; rw [dg_cons, if_neg (by decide +kernel), dg_cons, if_neg (by decide +kernel), dg_cons, if_neg (by decide +kernel), dg_cons, if_neg (by decide +kernel), dg_cons, if_neg (by decide +kernel), dg_cons, if_pos rfl]
end
theorem mergeW_new : ∀ {kws acc : List (Key × W)}, ((acc ++ kws).map (·.1)).Nodup → mergeW acc kws = acc ++ kws
  | [], acc, _ => by rw [List.append_nil]; rfl
  | p :: kws, acc, h => by
    have hn : ¬ (acc.any fun q => decide (q.1 = p.1)) = true := by
      intro z
      obtain ⟨q, hq, e⟩ := List.any_eq_true.mp z
      rw [List.map_append, List.nodup_append] at h
      exact h.2.2 q.1 (List.mem_map.mpr ⟨q, hq, rfl⟩) p.1 (by simp) (of_decide_eq_true e)
    have e : gPut acc p.1 p.2 = acc ++ [p] := by
      unfold gPut
      rw [if_neg hn]
    show mergeW (gPut acc p.1 p.2) kws = _
    rw [e, mergeW_new (by rw [List.append_assoc]; exact h), List.append_assoc]
    rfl
theorem yTru_bool {a : YM W} {ρ : YF} {μ μ1 : Sto} {b : Bool} (h : a ρ μ = some (.da (.bool b), μ1)) : yTru a ρ μ = some (b, μ1) := by
  unfold yTru
  rw [h]
  rfl
theorem not_run {a : YM W} {ρ : YF} {μ μ1 : Sto} {s : YM YO} (h : a ρ μ = some (.da (.bool true), μ1)) : yIfS (yNot (yTru a)) s yNext ρ μ = some (.nx ρ, μ1) := by
  unfold yIfS yNot
  rw [yTru_bool h]
  rfl
def LFr (sc : D) (o2 o3 o4 o5 o6 o7 o8 o9 : Option W) : YF := [some (.da sc), some (.rf 0), o2, o3, o4, o5, o6, o7, o8, o9, none, none]
theorem lay_list {l : List D} (h : ∀ d ∈ l, d.canLay0 = true ∧ d.depth ≤ 9) : (PyData.list l).canLay0 = true ∧ (PyData.list l).depth ≤ 10 := by
  have key : ∀ l : List D, (∀ d ∈ l, d.canLay0 = true ∧ d.depth ≤ 9) → PyData.canLayAll0 l = true ∧ PyData.depthAll l ≤ 9 := by
    intro l
    induction l with
    | nil => intro _; exact ⟨by simp only [PyData.canLayAll0], by simp only [PyData.depthAll]; omega⟩
    | cons d l ih =>
      intro h
      obtain ⟨a, b⟩ := ih fun x hx => h x (List.mem_cons_of_mem _ hx)
      obtain ⟨c, e⟩ := h d List.mem_cons_self
      exact ⟨by simp only [PyData.canLayAll0, a, c, Bool.and_self], by simp only [PyData.depthAll]; omega⟩
  obtain ⟨a, b⟩ := key l h
  exact ⟨by simp only [PyData.canLay0]; exact a, by simp only [PyData.depth]; omega⟩
theorem sh_rows {rs : List Row} (h : ∀ r ∈ rs, (rowD r).canLay0 = true ∧ (rowD r).depth ≤ 10) : SeqAt.shaped (rowsD rs) = true := shaped_list fun d hd => by
  obtain ⟨r, hr, rfl⟩ := List.mem_map.mp hd
  exact h r hr
theorem sh_ev {ws : List Str} (h : ∀ w ∈ ws, PyData.strOk w = true) : SeqAt.shaped (.list (ws.map evD1)) = true := shaped_list fun d hd => by
  obtain ⟨w, hw, rfl⟩ := List.mem_map.mp hd
  have k3 := strOk_b.2.2.1
  exact ⟨by simp only [evD1, PyData.canLay0, PyData.canLayAll0, h w hw, k3, Bool.and_self], by simp only [evD1, PyData.depth, PyData.depthAll]; omega⟩
theorem sh_in (I : List (Int × Option Int)) : SeqAt.shaped (.list (I.map iD)) = true := shaped_list fun d hd => by
  obtain ⟨p, _, rfl⟩ := List.mem_map.mp hd
  obtain ⟨n, i⟩ := p
  cases i with
  | none => exact ⟨by simp only [iD, innD, PyData.canLay0, PyData.canLayAll0, Bool.and_self], by simp only [iD, innD, PyData.depth, PyData.depthAll]; omega⟩
  | some x => exact ⟨by simp only [iD, innD, PyData.canLay0, PyData.canLayAll0, Bool.and_self], by simp only [iD, innD, PyData.depth, PyData.depthAll]; omega⟩
theorem sh_tl (tl : List (List Int)) : SeqAt.shaped (tlD tl) = true := shaped_list fun d hd => by
  obtain ⟨l, _, rfl⟩ := List.mem_map.mp hd
  refine lay_list fun d hd => ?_
  obtain ⟨i, _, rfl⟩ := List.mem_map.mp hd
  exact ⟨by simp only [PyData.canLay0], by simp only [PyData.depth]; omega⟩
theorem sh_tx {S : List Sc} (h : ∀ s ∈ S, PyData.strOk (txS s) = true) : SeqAt.shaped (.list (S.map fun s => PyData.str (txS s))) = true := shaped_list fun d hd => by
  obtain ⟨s, hs, rfl⟩ := List.mem_map.mp hd
  exact str_lay (h s hs)
def FB : YM YO := (yIfS (yNot (yTru (yS (m1 (dIsi "list") (mVar 6)))))
  (yRet (yP (mC (.bool false))))
  yNext)
theorem fb_run {sc : D} {o2 o3 o4 o5 o7 o8 o9 : Option W} {w : W} {l : List D} {μ : Sto} (h : Md.dat μ 6 w = some (.list l)) : FB (LFr sc o2 o3 o4 o5 (some w) o7 o8 o9) μ = some (.nx (LFr sc o2 o3 o4 o5 (some w) o7 o8 o9), μ) := by
  refine not_run ?_
  have v6 : mVar 6 (toS μ (LFr sc o2 o3 o4 o5 (some w) o7 o8 o9)) = some (.list l) := by
    unfold mVar toS LFr
    simp only [List.map_cons, List.getElem?_cons_succ, List.getElem?_cons_zero, h]
  unfold yS
  rw [m1_eq v6 (show dIsi "list" (.list l) = some (.bool true) from rfl)]
  rfl
theorem isstr_run {S : List Sc} {ρ : Fr} {e : Ent} (h5 : mVar 5 ρ = some (.list (S.map fun s => PyData.str (txS s)))) (hl : S.length ≤ 1000) (h : ∀ s ∈ S, turnD (gSet 11) mYes (m1 (dIsi "str") (mVar 11)) (wipeF ρ [11]) (.str (txS s)) = some (some (.bool true))) : mA dAll (mCons (mL (mLc (mItL (mVar 5)) [11] (gSet 11) mYes (m1 (dIsi "str") (mVar 11)))) mNil) ρ = some (.bool true) := by
  have lc := mLc_map (mi := mItL (mVar 5)) (vs := [11]) (g := gSet 11) (mt := mYes) (me := m1 (dIsi "str") (mVar 11)) (ρ := ρ) (e := fun s : Sc => PyData.str (txS s)) (o := fun _ => PyData.bool true) (l := S) (by unfold mItL; rw [h5]; rfl) (Nat.le_trans hl zl) h
  refine mA_eq (mCons_eq (mL_eq lc) rfl) ?_
  show (asBools (S.map fun _ => PyData.bool true)).map (fun bs => PyData.bool (bs.all id)) = _
  have e : (S.map fun _ => PyData.bool true) = (S.map fun _ => true).map PyData.bool := by rw [List.map_map]; rfl
  rw [e, asBools_map, Option.map_some]
  congr 2
  rw [List.all_map, List.all_eq_true]
  intro x _
  rfl
theorem law_math (ns : List Int) (hn : ns.length ≤ 63) (_ : ∀ z ∈ ns, Builtin.Int.intBits z ≤ 1048576) : ∃ μ', G_law [.da (.list (ns.map .int))] [] = some (.da (.bool true), μ') := by
  -- the dict of lists
  let μ0 : Sto := [.dct ownK, .lst [], .lst [], .lst [], .lst [], .lst [], .lst []]
  have C0 : CS μ0 [] (([] : List Str).map evW) [] (([] : List (Int × Option Int)).map iiW) [] (([] : List Sc).map tdW) := ⟨rfl, rfl, rfl, rfl, rfl, ⟨[], ⟨rfl, fun p hp => by simp at hp, rfl, by simp, by simp⟩, fun c hc => by cases hc⟩, rfl⟩
  have R : RS μ0 [] [] := ⟨C0, ⟨(fun r hr => by cases hr), (fun d n r e => by simp at e)⟩, (fun d p r e => by simp [scn, insOf] at e), (fun r hr => by cases hr), Nat.le_refl _, (fun z => absurd rfl z), (fun w hw => by cases hw), (fun s hs => by cases hs), (fun r hr => by cases hr)⟩
  let sc : D := .list (ns.map .int)
  obtain ⟨rs, μ1, e1, h1, hl⟩ := yComp_rows (l := ns) (turn := yTurn (ygSet 10) yYes (yCall G_law_row (yCons (yVar 1) (yCons (yVar 10) yNil))) [some (.da sc), some (.rf 0), none, none, none, none, none, none, none, none, none, none]) (fun rs μ => ∃ ws, RS μ rs ws) 63 (fun rs μ a ⟨ws, h⟩ hlt => by
    obtain ⟨μ', r, ws', g, h'⟩ := row_run (c := a) h (by omega)
    refine ⟨r, μ', ?_, ws', h'⟩
    have e : yCall G_law_row (yCons (yVar 1) (yCons (yVar 10) yNil)) [some (.da sc), some (.rf 0), none, none, none, none, none, none, none, none, some (.da (.int a)), none] μ = some (.da (rowD r), μ') := yCall_of (ws := [.rf 0, .da (.int a)]) (μ1 := μ) rfl g
    unfold yTurn
    show ((some [some (W.da sc), some (.rf 0), none, none, none, none, none, none, none, none, some (.da (.int a)), none]).bind _) = _
    rw [Option.bind_some]
    show ((some (true, μ)).bind _) = _
    rw [Option.bind_some, if_pos rfl]
    simp only [e, Option.map_some]) (rs := []) (μ := μ0) ⟨[], R⟩ (by simpa using hn)
  rw [List.nil_append] at h1
  obtain ⟨ws, S⟩ := h1
  have ll : rs.length ≤ 63 := by omega
  -- the tale
  have tb := begun_run S.wf (by omega)
  obtain ⟨μ2, i1, i2⟩ := inside_run (μ := μ1) S.wf (by omega)
  obtain ⟨μ3, t, cs, t1, t2, t3⟩ := turns_run (μ := μ2) S.wf (by omega) S.wi
  obtain ⟨μ4, d1, d2⟩ := drawn_run (ws := ws) (μ := μ3) S.wf (by omega) S.ot
  have C4 := ((S.cs.fra i2).fra t3).fra d2
  have T4 := t2.fra d2
  let I := insOf (scn rs).1
  let tx : D := .list ((scn rs).1.map fun s => PyData.str (txS s))
  let B : D := .list ((begOf rs).map .int)
  let ID : D := .list (I.map iD)
  let EV : D := .list (ws.map evD1)
  let μ5 := μ4 ++ [Cell.lst [.da B, .da ID, .rf t, .da tx]]
  have C5 : CS μ5 _ _ _ _ _ _ := C4.fra ⟨fun n c _ e => get_app e, by show _ ≤ (μ4 ++ _).length; simp⟩
  have T5 : LLs μ5 t cs _ := T4.fra ⟨fun n c _ e => get_app e, by show _ ≤ (μ4 ++ _).length; simp⟩
  have own6' := own_dat C5
  have g5 : μ5[μ4.length]? = some (.lst [.da B, .da ID, .rf t, .da tx]) := by
    show (μ4 ++ [_])[μ4.length]? = _
    rw [List.getElem?_append_right (Nat.le_refl _), Nat.sub_self]; rfl
  have shB := ints_ok (begOf rs)
  have shI := sh_in I
  have shT := sh_tl (trn I)
  have shX := sh_tx S.tk
  have shR := sh_rows S.sh
  have shE := sh_ev S.wk
  let Fin : Option W → YF := fun o6 => LFr sc (some (.da (rowsD rs))) (some (.da (rowsD rs))) (some (.da EV)) (some (.da tx)) o6 (some (.da B)) (some (.da ID)) (some (.rf t))
  have tS : ∀ w : W, Md.dat μ5 6 w = some tx → toS μ5 (Fin (some w)) = [.va sc, .va (ownD (scn rs).2 ws (begOf rs) I (trn I) (scn rs).1), .va (rowsD rs), .va (rowsD rs), .va EV, .va tx, .va tx, .va B, .va ID, .va (tlD (trn I)), .no, .no] := fun w hw => by
    have T6 : Md.dat μ5 6 (.rf t) = some (tlD (trn I)) := T5.dat
    show toS μ5 (LFr sc (some (.da (rowsD rs))) (some (.da (rowsD rs))) (some (.da EV)) (some (.da tx)) (some w) (some (.da B)) (some (.da ID)) (some (.rf t))) = _
    unfold toS LFr
    simp only [List.map_cons, List.map_nil, own6', T6, dat_da, hw]
    rfl
  have tS' := tS (.da tx) (dat_da _ _ _)
  refine ⟨μ5, runY_rt rfl ?_⟩
  unfold m_law
  show ySeq _ _ [some (.da sc), none, none, none, none, none, none, none, none, none, none, none] [] = _
  refine (ySeq_nx (yAsg_of (w := .rf 0) (μ1 := μ0) (ρ1 := LFr sc none none none none none none none none) ?_ rfl)).trans ?_
  · have nl : ∀ (ρ : YF) (μ : Sto), yLstC yNil ρ μ = some (.rf μ.length, μ ++ [.lst []]) := fun ρ μ => by
      show (if ([] : List W).length ≤ sizeLine then some (W.rf μ.length, μ ++ [Cell.lst []]) else none) = _
      exact if_pos (Nat.zero_le _)
    have pc : ∀ (s : Str) (m : YM (List (Key × W))) (ρ : YF) (μ μ' : Sto) (r : List (Key × W)), m ρ (μ ++ [.lst []]) = some (r, μ') → ypCons (yP (mC (.str s))) (yLstC yNil) m ρ μ = some ((.inr s, .rf μ.length) :: r, μ') := fun s m ρ μ μ' r h => by
      unfold ypCons
      show ((some (W.da (.str s), μ)).bind _) = _
      rw [Option.bind_some, nl, Option.bind_some, h]
      rfl
    have all := pc "around" _ [some (.da sc), none, none, none, none, none, none, none, none, none, none, none] ([] ++ [.dct []]) _ _ (pc "events" _ _ _ _ _ (pc "begun" _ _ _ _ _ (pc "inside" _ _ _ _ _ (pc "turns" _ _ _ _ _ (pc "drawn" ypNil _ _ _ _ rfl)))))
    unfold yDisp
    show ((ypCons _ _ _ _ ([] ++ [.dct []])).bind _) = _
    rw [all, Option.bind_some]
    have mw : mergeW [] ownK = ownK := mergeW_new (by decide +kernel)
    show some (W.rf 0, [Cell.dct (mergeW [] ownK), .lst [], .lst [], .lst [], .lst [], .lst [], .lst []]) = _
    rw [mw]
  refine (ySeq_nx (yAsg_of (w := .da (rowsD rs)) (μ1 := μ1) (ρ1 := LFr sc (some (.da (rowsD rs))) none none none none none none none) ?_ rfl)).trans ?_
  · have lc : yLc (yItP (mItL (mVar 0))) [10] (ygSet 10) yYes (yCall G_law_row (yCons (yVar 1) (yCons (yVar 10) yNil))) (LFr sc none none none none none none none none) μ0 = some (rs.map fun r => W.da (rowD r), μ1) := by
      unfold yLc
      have it : yItP (mItL (mVar 0)) (LFr sc none none none none none none none none) μ0 = some ((ns.map fun a => W.da (.int a), gdT), μ0) := by
        have : yItP (mItL (mVar 0)) (LFr sc none none none none none none none none) μ0 = some (((ns.map PyData.int).map W.da, gdT), μ0) := rfl
        rw [this, List.map_map]; rfl
      rw [it, Option.bind_some, if_pos (by rw [List.length_map]; exact Nat.le_trans hn (by decide))]
      exact e1
    refine yL_of lc ?_
    have : (rs.map fun r => W.da (rowD r)) = (rs.map rowD).map W.da := by rw [List.map_map]; rfl
    rw [this, allDa_map]
  refine (ySeq_nx (yAsg_of (w := .da (rowsD rs)) (μ1 := μ1) (ρ1 := LFr sc (some (.da (rowsD rs))) (some (.da (rowsD rs))) none none none none none none) rfl rfl)).trans ?_
  refine (ySeq_nx (yAsg_of (w := .da EV) (μ1 := μ1) (ρ1 := LFr sc (some (.da (rowsD rs))) (some (.da (rowsD rs))) (some (.da EV)) none none none none none) ?_ rfl)).trans ?_
  · have dgl : yDget (yVar 1) (yP (mC (.str "events"))) (LFr sc (some (.da (rowsD rs))) (some (.da (rowsD rs))) none none none none none none) μ1 = some (.rf 2, μ1) := by
      unfold yDget
      show ((some (W.rf 0, μ1)).bind _) = _
      rw [Option.bind_some]
      show ((some (W.da (.str "events"), μ1)).bind _) = _
      rw [Option.bind_some]
      simp only [S.cs.o, Pd.keyOf, Option.bind_some, own2, Option.map_some]
    have ly : yList (yDget (yVar 1) (yP (mC (.str "events")))) (LFr sc (some (.da (rowsD rs))) (some (.da (rowsD rs))) none none none none none none) μ1 = some (ws.map evW, μ1) := by
      unfold yList
      rw [dgl, Option.bind_some]
      simp only [S.cs.e]
    refine yL_of ly ?_
    have : ws.map evW = (ws.map evD1).map W.da := by rw [List.map_map]; rfl
    rw [this, allDa_map]
  refine (ySeq_nx (ρ1 := LFr sc (some (.da (rowsD rs))) (some (.da (rowsD rs))) (some (.da EV)) none none (some (.da B)) (some (.da ID)) (some (.rf t))) (μ1 := μ3) ?_).trans ?_
  · have y1 : yP (mA G_begun (mCons (mVar 3) mNil)) (LFr sc (some (.da (rowsD rs))) (some (.da (rowsD rs))) (some (.da EV)) none none none none none) μ1 = some (.da B, μ1) := by
      unfold yP
      rw [mA_eq (mCons_eq (x := rowsD rs) rfl rfl) tb]
      rfl
    have y2' : yCall G_inside (yCons (yVar 3) yNil) (LFr sc (some (.da (rowsD rs))) (some (.da (rowsD rs))) (some (.da EV)) none none none none none) μ1 = some (.da ID, μ2) := yCall_of (ws := [.da (rowsD rs)]) (μ1 := μ1) rfl i1
    have y3 : yCall G_turns (yCons (yVar 3) yNil) (LFr sc (some (.da (rowsD rs))) (some (.da (rowsD rs))) (some (.da EV)) none none none none none) μ2 = some (.rf t, μ3) := yCall_of (ws := [.da (rowsD rs)]) (μ1 := μ2) rfl t1
    unfold yPar3
    rw [yCons_of y1 (yCons_of y2' (yCons_of y3 (rfl : yNil _ μ3 = some ([], μ3)))), Option.bind_some]
    rfl
  refine (ySeq_nx (yAsg_of (w := .da tx) (μ1 := μ4) (ρ1 := Fin none) (yCall_of (ws := [.da (rowsD rs), .da (evD ws)]) (μ1 := μ3) rfl d1) rfl)).trans ?_
  refine (ySeq_nx (a := yFor (yItL (yLstC (yCons (yVar 7) (yCons (yVar 8) (yCons (yVar 9) (yCons (yVar 5) yNil)))))) (ygSet 6) FB) (ρ1 := Fin (some (.da tx))) (μ1 := μ5) ?_).trans ?_
  · have gd := gdL_self g5
    have ev : yLstC (yCons (yVar 7) (yCons (yVar 8) (yCons (yVar 9) (yCons (yVar 5) yNil)))) (Fin none) μ4 = some (.rf μ4.length, μ5) := by
      show (if [W.da B, .da ID, .rf t, .da tx].length ≤ sizeLine then some (W.rf μ4.length, μ4 ++ [Cell.lst [.da B, .da ID, .rf t, .da tx]]) else none) = _
      exact if_pos (show 4 ≤ sizeLine by decide)
    have it : yItL (yLstC (yCons (yVar 7) (yCons (yVar 8) (yCons (yVar 9) (yCons (yVar 5) yNil))))) (Fin none) μ4 = some (([.da B, .da ID, .rf t, .da tx], gdL μ4.length [.da B, .da ID, .rf t, .da tx]), μ5) := by
      unfold yItL
      rw [ev, Option.bind_some]
      simp only [g5]
    have T6 : Md.dat μ5 6 (.rf t) = some (tlD (trn I)) := T5.dat
    have st : ∀ (w : W) (l : List D) (o6 : Option W) (r : List W), Md.dat μ5 6 w = some (.list l) → yForL (gdL μ4.length [.da B, .da ID, .rf t, .da tx]) (ygSet 6) FB (w :: r) (Fin o6) μ5 = yForL (gdL μ4.length [.da B, .da ID, .rf t, .da tx]) (ygSet 6) FB r (Fin (some w)) μ5 := fun w l o6 r hw => by
      have f := fb_run (sc := sc) (o2 := some (.da (rowsD rs))) (o3 := some (.da (rowsD rs))) (o4 := some (.da EV)) (o5 := some (.da tx)) (o7 := some (.da B)) (o8 := some (.da ID)) (o9 := some (.rf t)) hw
      show ((some (Fin (some w))).bind _) = _
      rw [Option.bind_some]
      show ((FB (LFr sc (some (.da (rowsD rs))) (some (.da (rowsD rs))) (some (.da EV)) (some (.da tx)) (some w) (some (.da B)) (some (.da ID)) (some (.rf t))) μ5).bind _) = _
      rw [f, Option.bind_some]
      simp only [gd, if_true]
      rfl
    unfold yFor
    rw [it, Option.bind_some]
    show yForL (gdL μ4.length [.da B, .da ID, .rf t, .da tx]) (ygSet 6) FB [.da B, .da ID, .rf t, .da tx] (Fin none) μ5 = _
    rw [st _ _ _ _ (dat_da _ _ _), st _ _ _ _ (dat_da _ _ _), st _ _ _ _ T6, st _ _ _ _ (dat_da _ _ _)]
    rfl
  refine (ySeq_nx (ρ1 := Fin (some (.da tx))) (μ1 := μ5) ?_).trans ?_
  · have q1 : yPT (mB (m2 dNe (mVar 3) (mVar 2))) (Fin (some (.da tx))) μ5 = some (false, μ5) := by
      unfold yPT
      rw [mB_eq (m2_eq (x := rowsD rs) (y := rowsD rs) rfl rfl (dNe_self shR))]
      rfl
    have q : ∀ (i : Nat) (s : Str) (d : D), mVar i [.va sc, .va (ownD (scn rs).2 ws (begOf rs) I (trn I) (scn rs).1), .va (rowsD rs), .va (rowsD rs), .va EV, .va tx, .va tx, .va B, .va ID, .va (tlD (trn I)), .no, .no] = some d → dDGet (ownD (scn rs).2 ws (begOf rs) I (trn I) (scn rs).1) (.str s) = some d → SeqAt.shaped d = true → yST (mB (m2 dNe (mVar i) (m2 dDGet (mVar 1) (mC (.str s))))) (Fin (some (.da tx))) μ5 = some (false, μ5) := fun i s d hv hg hs => by
      unfold yST
      rw [tS', mB_eq (m2_eq hv (m2_eq rfl rfl hg) (dNe_self hs))]
      rfl
    have p1 := q 4 "events" EV rfl og2 shE
    have p2 := q 7 "begun" B rfl og3 shB
    have p3 := q 8 "inside" ID rfl og4 shI
    refine (yIfS_f ?_).trans rfl
    unfold yOr
    rw [q1, Option.bind_some]
    simp only [Bool.false_eq_true, if_false, p1, p2, p3, Option.bind_some]
  · refine yRet_of ?_
    have r1 : m2 dEq (mVar 9) (m2 dDGet (mVar 1) (mC (.str "turns"))) [.va sc, .va (ownD (scn rs).2 ws (begOf rs) I (trn I) (scn rs).1), .va (rowsD rs), .va (rowsD rs), .va EV, .va tx, .va tx, .va B, .va ID, .va (tlD (trn I)), .no, .no] = some (.bool true) := m2_eq rfl (m2_eq rfl rfl og5) (dEq_self shT)
    have r2 : m2 dEq (mVar 5) (m2 dDGet (mVar 1) (mC (.str "drawn"))) [.va sc, .va (ownD (scn rs).2 ws (begOf rs) I (trn I) (scn rs).1), .va (rowsD rs), .va (rowsD rs), .va EV, .va tx, .va tx, .va B, .va ID, .va (tlD (trn I)), .no, .no] = some (.bool true) := m2_eq rfl (m2_eq rfl rfl og6) (dEq_self shX)
    have r3 := isstr_run (S := (scn rs).1) (e := .no) (ρ := [.va sc, .va (ownD (scn rs).2 ws (begOf rs) I (trn I) (scn rs).1), .va (rowsD rs), .va (rowsD rs), .va EV, .va tx, .va tx, .va B, .va ID, .va (tlD (trn I)), .no, .no]) rfl (by have := (len_scn rs).2; omega) (fun s _ => rfl)
    unfold yS
    rw [tS', mAndV_eq r1 (mAndV_eq r2 r3)]
    rfl

theorem all_mk {P : Program} {w : World} {K : PySem.W.Frag} {h : Heap} {mg : Str → Option Value} {fa : Addr} (X : K.In h) (G : h.Ns mainGlobals mg) (hfa : mg "law" = some (.ref fa)) {f0 : Addr} {od0 an0 : Option Addr} {sl0 : Array (Option Value)} {oc0 kV0 dc0 pm0 ct0 cd0 : Value}
    {f1 : Addr} {od1 an1 : Option Addr} {sl1 : Array (Option Value)} {oc1 kV1 dc1 pm1 ct1 cd1 : Value}
    {f2 : Addr} {od2 an2 : Option Addr} {sl2 : Array (Option Value)} {oc2 kV2 dc2 pm2 ct2 cd2 : Value}
    {f3 : Addr} {od3 an3 : Option Addr} {sl3 : Array (Option Value)} {oc3 kV3 dc3 pm3 ct3 cd3 : Value}
    {f4 : Addr} {od4 an4 : Option Addr} {sl4 : Array (Option Value)} {oc4 kV4 dc4 pm4 ct4 cd4 : Value}
    {f5 : Addr} {od5 an5 : Option Addr} {sl5 : Array (Option Value)} {oc5 kV5 dc5 pm5 ct5 cd5 : Value}
    {f6 : Addr} {od6 an6 : Option Addr} {sl6 : Array (Option Value)} {oc6 kV6 dc6 pm6 ct6 cd6 : Value}
    {f7 : Addr} {od7 an7 : Option Addr} {sl7 : Array (Option Value)} {oc7 kV7 dc7 pm7 ct7 cd7 : Value}
    (a0 : PySem.W.nsIn K mainGlobals "_law_word_by" = some (some (.ref f0)))
    (l0 : K.lookup f0 = some ⟨oc0, od0, .func (PySem.W.fnOf "_law_word_by" "_law_word_by" (defArgs s_law_word_by) (defBody s_law_word_by) (defScope s_law_word_by) .none kV0 dc0 pm0 an0 cd0 ct0), sl0⟩)
    (c0 : PySem.W.codeIn K cd0 "_law_word_by" = true)
    (k0 : PySem.W.keepIn K (.ref f0) = true)
    (a1 : PySem.W.nsIn K mainGlobals "begun" = some (some (.ref f1)))
    (l1 : K.lookup f1 = some ⟨oc1, od1, .func (PySem.W.fnOf "begun" "begun" (defArgs s_begun) (defBody s_begun) (defScope s_begun) .none kV1 dc1 pm1 an1 cd1 ct1), sl1⟩)
    (c1 : PySem.W.codeIn K cd1 "begun" = true)
    (k1 : PySem.W.keepIn K (.ref f1) = true)
    (a2 : PySem.W.nsIn K mainGlobals "scenes" = some (some (.ref f2)))
    (l2 : K.lookup f2 = some ⟨oc2, od2, .func (PySem.W.fnOf "scenes" "scenes" (defArgs s_scenes) (defBody s_scenes) (defScope s_scenes) .none kV2 dc2 pm2 an2 cd2 ct2), sl2⟩)
    (c2 : PySem.W.codeIn K cd2 "scenes" = true)
    (k2 : PySem.W.keepIn K (.ref f2) = true)
    (a3 : PySem.W.nsIn K mainGlobals "inside" = some (some (.ref f3)))
    (l3 : K.lookup f3 = some ⟨oc3, od3, .func (PySem.W.fnOf "inside" "inside" (defArgs s_inside) (defBody s_inside) (defScope s_inside) .none kV3 dc3 pm3 an3 cd3 ct3), sl3⟩)
    (c3 : PySem.W.codeIn K cd3 "inside" = true)
    (k3 : PySem.W.keepIn K (.ref f3) = true)
    (a4 : PySem.W.nsIn K mainGlobals "turns" = some (some (.ref f4)))
    (l4 : K.lookup f4 = some ⟨oc4, od4, .func (PySem.W.fnOf "turns" "turns" (defArgs s_turns) (defBody s_turns) (defScope s_turns) .none kV4 dc4 pm4 an4 cd4 ct4), sl4⟩)
    (c4 : PySem.W.codeIn K cd4 "turns" = true)
    (k4 : PySem.W.keepIn K (.ref f4) = true)
    (a5 : PySem.W.nsIn K mainGlobals "drawn" = some (some (.ref f5)))
    (l5 : K.lookup f5 = some ⟨oc5, od5, .func (PySem.W.fnOf "drawn" "drawn" (defArgs s_drawn) (defBody s_drawn) (defScope s_drawn) .none kV5 dc5 pm5 an5 cd5 ct5), sl5⟩)
    (c5 : PySem.W.codeIn K cd5 "drawn" = true)
    (k5 : PySem.W.keepIn K (.ref f5) = true)
    (a6 : PySem.W.nsIn K mainGlobals "_law_row" = some (some (.ref f6)))
    (l6 : K.lookup f6 = some ⟨oc6, od6, .func (PySem.W.fnOf "_law_row" "_law_row" (defArgs s_law_row) (defBody s_law_row) (defScope s_law_row) .none kV6 dc6 pm6 an6 cd6 ct6), sl6⟩)
    (c6 : PySem.W.codeIn K cd6 "_law_row" = true)
    (k6 : PySem.W.keepIn K (.ref f6) = true)
    (a7 : PySem.W.nsIn K mainGlobals "law" = some (some (.ref f7)))
    (l7 : K.lookup f7 = some ⟨oc7, od7, .func (PySem.W.fnOf "law" "law" (defArgs s_law) (defBody s_law) (defScope s_law) .none kV7 dc7 pm7 an7 cd7 ct7), sl7⟩)
    (c7 : PySem.W.codeIn K cd7 "law" = true)
    (k7 : PySem.W.keepIn K (.ref f7) = true)
    (z_range : PySem.W.nsIn K mainGlobals "range" = some none)
    (z_len : PySem.W.nsIn K mainGlobals "len" = some none)
    (z_str : PySem.W.nsIn K mainGlobals "str" = some none)
    (z_list : PySem.W.nsIn K mainGlobals "list" = some none)
    (z_isinstance : PySem.W.nsIn K mainGlobals "isinstance" = some none)
    (z_all : PySem.W.nsIn K mainGlobals "all" = some none) :
    ∃ (cs : List (Addr × Addr)) (T : List (Addr × Str)) (fd : FuncData), (∀ p ∈ cs, h.get? p.2 = some { cls := Value.none, data := Data.fields #[] }) ∧ (∀ p ∈ cs, K.lookup p.2 = none) ∧ (∀ p ∈ cs, PySem.W.CodeHd h p.1 p.2) ∧ (∀ t ∈ T, ∃ p ∈ cs, p.2 = t.1) ∧
      (∀ (s : Shared) (u : Value), BindsTo s fd ⟨[u], []⟩ [("_law_script", u)]) ∧ ∀ base : Heap, K.In base → base.Ns mainGlobals mg → (∀ p ∈ cs, LamX.TabB base mg p.1 p.2) → FnOk P w K mg base CX0 4 fa fd ["_law_script"] (spEnd T K 63) := by
  have e := hfa.symm.trans (PySem.W.mg_of X G a7)
  cases e
  have F0 := fun_mk (st := s_law_word_by) l0 c0 k0
  have b0 := F0.binds (ps := ["_law_cell"]) fun _ _ _ _ _ _ us hl => match us, hl with | [_], _ => rfl
  have F1 := fun_mk (st := s_begun) l1 c1 k1
  have b1 := F1.binds (ps := ["log"]) fun _ _ _ _ _ _ us hl => match us, hl with | [_], _ => rfl
  have F2 := fun_mk (st := s_scenes) l2 c2 k2
  have b2 := F2.binds (ps := ["log"]) fun _ _ _ _ _ _ us hl => match us, hl with | [_], _ => rfl
  have F3 := fun_mk (st := s_inside) l3 c3 k3
  have b3 := F3.binds (ps := ["log"]) fun _ _ _ _ _ _ us hl => match us, hl with | [_], _ => rfl
  have F4 := fun_mk (st := s_turns) l4 c4 k4
  have b4 := F4.binds (ps := ["log"]) fun _ _ _ _ _ _ us hl => match us, hl with | [_], _ => rfl
  have F5 := fun_mk (st := s_drawn) l5 c5 k5
  have b5 := F5.binds (ps := ["log", "events"]) fun _ _ _ _ _ _ us hl => match us, hl with | [_, _], _ => rfl
  have F6 := fun_mk (st := s_law_row) l6 c6 k6
  have b6 := F6.binds (ps := ["_law_own", "_law_cell"]) fun _ _ _ _ _ _ us hl => match us, hl with | [_, _], _ => rfl
  have F7 := fun_mk (st := s_law) l7 c7 k7
  have b7 := F7.binds (ps := ["_law_script"]) fun _ _ _ _ _ _ us hl => match us, hl with | [_], _ => rfl
  refine ⟨[], [], PySem.W.fnOf "law" "law" (defArgs s_law) (defBody s_law) (defScope s_law) .none kV7 dc7 pm7 an7 cd7 ct7, ?_, ?_, ?_, ?_, (fun s v => .of_eq rfl), fun base _ _ tbs => ?_⟩
  · intro p hp; cases hp
  · intro p hp; cases hp
  · intro p hp; cases hp
  · intro p hp; cases hp
  have T : Tx K mg base [] { f_law_word_by := f0, d_law_word_by := _, f_begun := f1, d_begun := _, f_scenes := f2, d_scenes := _, f_inside := f3, d_inside := _, f_turns := f4, d_turns := _, f_drawn := f5, d_drawn := _, f_law_row := f6, d_law_row := _, f_law := fa, d_law := _, ex := fun _ => 0 } := {
    F_law_word_by := F0,
    b_law_word_by := b0,
    g_law_word_by := PySem.W.mg_of X G a0,
    F_begun := F1,
    b_begun := b1,
    g_begun := PySem.W.mg_of X G a1,
    F_scenes := F2,
    b_scenes := b2,
    g_scenes := PySem.W.mg_of X G a2,
    F_inside := F3,
    b_inside := b3,
    g_inside := PySem.W.mg_of X G a3,
    F_turns := F4,
    b_turns := b4,
    g_turns := PySem.W.mg_of X G a4,
    F_drawn := F5,
    b_drawn := b5,
    g_drawn := PySem.W.mg_of X G a5,
    F_law_row := F6,
    b_law_row := b6,
    g_law_row := PySem.W.mg_of X G a6,
    F_law := F7,
    b_law := b7,
    g_law := PySem.W.mg_of X G a7,
    n_range := PySem.W.mg_none_of X G z_range,
    n_len := PySem.W.mg_none_of X G z_len,
    n_str := PySem.W.mg_none_of X G z_str,
    n_list := PySem.W.mg_none_of X G z_list,
    n_isinstance := PySem.W.mg_none_of X G z_isinstance,
    n_all := PySem.W.mg_none_of X G z_all }
  exact end_okY (ok_law (P := P) (w := w) T) law_math
end Lw
open PySem PySem.W PyProof.Rows
set_option maxRecDepth 100000 in
set_option maxHeartbeats 0 in
theorem PySem.Challenge.cw_eventloom_k13_tale_holds : PySem.Challenge.rw_eventloom_k13_tale.Holds := by
  w_on; o_law; k_head; (case hw => w_witness2)
  k_fill
  refine Pd.walkT (l := PySem.Challenge.rw_eventloom_k13_tale) (k := 4) (x := "_law_script") rfl rfl ⟨rfl, by decide, by decide⟩ (fun w h Y => PySem.W.kIn_of Y) ?F
  case F =>
    intro w mg fa h Y KX G hmg
    refine' Lw.all_mk KX G hmg ?a0 ?l0 ?c0 ?k0 ?a1 ?l1 ?c1 ?k1 ?a2 ?l2 ?c2 ?k2 ?a3 ?l3 ?c3 ?k3 ?a4 ?l4 ?c4 ?k4 ?a5 ?l5 ?c5 ?k5 ?a6 ?l6 ?c6 ?k6 ?a7 ?l7 ?c7 ?k7 ?z_range ?z_len ?z_str ?z_list ?z_isinstance ?z_all
    (case a0 => k_is)
    (case l0 => k_is)
    (case c0 => k_is)
    (case k0 => k_is)
    (case a1 => k_is)
    (case l1 => k_is)
    (case c1 => k_is)
    (case k1 => k_is)
    (case a2 => k_is)
    (case l2 => k_is)
    (case c2 => k_is)
    (case k2 => k_is)
    (case a3 => k_is)
    (case l3 => k_is)
    (case c3 => k_is)
    (case k3 => k_is)
    (case a4 => k_is)
    (case l4 => k_is)
    (case c4 => k_is)
    (case k4 => k_is)
    (case a5 => k_is)
    (case l5 => k_is)
    (case c5 => k_is)
    (case k5 => k_is)
    (case a6 => k_is)
    (case l6 => k_is)
    (case c6 => k_is)
    (case k6 => k_is)
    (case a7 => k_is)
    (case l7 => k_is)
    (case c7 => k_is)
    (case k7 => k_is)
    (case z_range => k_is)
    (case z_len => k_is)
    (case z_str => k_is)
    (case z_list => k_is)
    (case z_isinstance => k_is)
    (case z_all => k_is)
